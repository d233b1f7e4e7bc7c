"""Points [56] and [57], wirewords/rings.py; of point [4] "Kept or broken"."""

import itertools
import random

from tests.helping import Case, letters_of, random_parts
from tests.machining import (
    FLIP, NOTHING, RARE, WAIT, counter, fits, naive_answer, random_pattern, ring_of, words_of,
)
from wirewords.circuits import Circuit
from wirewords.errors import (
    InvalidWidth, InvalidWord, NotFitting, NotLasting, NotLate, OtherWidth, TooLong, TooMany,
)
from wirewords.lasting import can_last, lasting_part
from wirewords.maps import keeps, kept_table
from wirewords.patterns import Pattern
from wirewords.rings import (
    further_table, further_word, is_further_table, is_further_word, is_late, is_promise, is_spoiler, keeps_further, player,
    promise, ring, spoiler,
)
from wirewords.runs import answer
from wirewords.states import machine_of
from wirewords.strongest import strongest

ANY, END = Pattern.any_of(1), Pattern(1, [{}])
TELL = Circuit(["x"], [], [], ["x"])


def late_parts(seed, inputs=None, outputs=None):
    """Parts of a circuit whose outputs are registers, or gates of registers."""
    names, gates, registers, _ = random_parts(seed, seed % 3 if inputs is None else inputs, seed % 6, 1 + seed % 3, 1)
    chance = random.Random(seed)
    states = [row[0] for row in registers]
    more = [("z0", "not", [chance.choice(states)]), ("z1", "xor", [chance.choice(states), "z0"])]
    many = 1 + seed % 2 if outputs is None else outputs
    return names, gates + more, registers, [chance.choice(states + ["z0", "z1"]) for _ in range(many)]


def some_late(many):
    for seed in range(many):
        parts = late_parts(seed)
        ahead = random_pattern(seed, len(parts[0]), 1 + seed % 3, 0.6)
        behind = random_pattern(seed + 300, len(parts[3]), 1 + seed % 4, 0.8)
        if seed % 3 == 0:
            behind = behind | strongest(Circuit(*parts), Pattern.any_of(len(parts[0])))
        yield parts, Circuit(*parts), ahead, behind


def some_words(width):
    return words_of(width, {0: 12, 1: 6, 2: 3}[width])


class LateTest(Case):
    def test_through_gates_and_registers(self):
        self.assertEqual([is_late(circuit=WAIT), is_late(FLIP), is_late(TELL), is_late(NOTHING)], [True, False, False, True])
        # the register is read by a gate, and so is the input, but not for an output
        made = Circuit(["x"], [("g", "xor", ["x", "q"]), ("h", "not", ["q"])], [("q", 0, "g")], ["h", "q"])
        self.assertIs(is_late(made), True)
        self.assertIs(is_late(Circuit(["x"], made.gates(), made.registers(), ["h", "q", "g"])), False)
        self.assertIs(is_late(Circuit(["x"], made.gates(), made.registers(), ["h", "x"])), False)
        # through several gates, and where the gate does not say what the input says
        deep = Circuit(["x"], [("l", "low", []), ("g", "and", ["x", "l"]), ("h", "not", ["g"])], [], ["h"])
        self.assertIs(is_late(deep), False)
        self.assertIs(is_late(Circuit(["x"], deep.gates(), [], ["l"])), True)
        self.assertIs(is_late(Circuit(list("abcdefgh"), [], [("q", 0, "a")], ["q"] * 8)), True)

    def test_against_paths(self):
        for seed in range(60):
            parts = random_parts(seed, seed % 3, seed % 7, seed % 3, 2)
            sources = {name: wires for name, _, wires in parts[1]}

            def hears(wire):
                return wire in parts[0] or any(hears(source) for source in sources.get(wire, []))

            self.assertIs(is_late(Circuit(*parts)), not any(hears(wire) for wire in parts[3]))

    def test_not_late(self):
        made = Circuit(["x"], [("b", "not", ["x"]), ("c", "not", ["b"])], [("a", 0, "x")], ["c", "b", "a", "x"])
        five = Pattern.any_of(0)
        for call in (keeps_further, further_table, further_word, spoiler, lambda *args: is_further_table(*args, None),
                     lambda *args: is_further_word(*args, None), lambda *args: is_spoiler(*args, None)):
            self.refuses(NotLate, ["b"], call, made, five, five)
        self.refuses(NotLate, ["b"], ring, made, NOTHING)
        self.refuses(NotLate, ["b"], promise, made, NOTHING, five, five)
        self.refuses(NotLate, ["b"], is_promise, made, NOTHING, five, five, None)
        self.refuses(NotLate, ["x"], ring, TELL, NOTHING)


class FurtherTest(Case):
    def naive_words(self, parts, ahead, behind):
        for word in some_words(len(parts[0])):
            if word and fits(ahead, word[:-1]) and not fits(behind, naive_answer(parts, word)[0]):
                yield word

    def test_one_of_both(self):
        seen = {True: 0, False: 0}
        for parts, circuit, ahead, behind in some_late(120):
            found = next(self.naive_words(parts, ahead, behind), None)
            word, told = further_word(circuit, ahead, behind), further_table(circuit, ahead, behind)
            if found is not None or word is None:
                self.assertEqual(word, found)
            seen[word is None] += 1
            self.assertIs(keeps_further(circuit, ahead, behind), word is None)
            self.assertIs(told is None, word is not None)
            if word is None:
                self.assertIs(is_further_table(circuit, ahead, behind, told), True)
                self.assertEqual(told, kept_table(circuit, ahead, behind))
                for state, _, twin in told:
                    self.assertIn(naive_answer(parts, [(0,) * len(parts[0])], state)[0][0], behind.leads(twin))
            else:
                self.assertIs(is_further_word(circuit, ahead, behind, word), True)
        self.assertGreater(min(seen.values()), 20)

    def test_the_document(self):
        self.assertEqual(further_word(circuit=WAIT, ahead=ANY, behind=RARE), [(0,)] * 3)
        self.assertEqual([keeps_further(circuit=WAIT, ahead=ANY, behind=ANY), further_table(circuit=WAIT, ahead=ANY, behind=ANY)],
                         [True, [((0,), 0, 0), ((1,), 0, 0)]])
        self.unlike_lists(further_table(WAIT, ANY, ANY))

    def test_one_letter_where_nothing_leads_on(self):
        # kept, for the empty word alone fits ahead; but what is said at once does not fit
        ones = Pattern(1, [{(1,): 0}])
        self.assertEqual([keeps(WAIT, END, ones), keeps_further(WAIT, END, ones), further_word(WAIT, END, ones)],
                         [True, False, [(0,)]])
        self.assertEqual([kept_table(WAIT, END, ones), further_table(WAIT, END, ones)], [[((0,), 0, 0)], None])
        self.assertEqual([is_further_table(WAIT, END, ones, [((0,), 0, 0)]), is_further_table(WAIT, END, ANY, [((0,), 0, 0)])],
                         [False, True])
        self.assertEqual(further_word(WAIT, Pattern(1, [{(1,): 1}, {}]), Pattern(1, [{(0,): 1}, {}])), [(1,), (0,)])
        none = Pattern.any_of(0)
        self.assertEqual([further_table(NOTHING, none, none), further_word(NOTHING, none, Pattern(0, [{(): 1}, {}]))],
                         [[((), 0, 0)], [(), ()]])

    def test_any_table(self):
        behind = Pattern(1, [{(0,): 0, (1,): 1}, {(1,): 1}])
        ahead = Pattern(1, [{(0,): 1, (1,): 0}, {(0,): 1}])
        good = further_table(WAIT, ahead, behind)
        self.assertEqual(good, [((0,), 0, 0), ((1,), 1, 0), ((1,), 1, 1)])
        for value in (good, tuple(good), good[::-1]):
            self.assertIs(is_further_table(circuit=WAIT, ahead=ahead, behind=behind, value=value), True)
        wrong = [None, 5, True, "0", {}, {row: 1 for row in good}, [], (), object(), good[:1], good[1:], good[:2], good[::2], WAIT]
        wrong += [good + [each] for each in (
            good[0], ((0,), 0, 1), ((0,), 1, 1), ((1,), 0, 0), ((0,), 2, 0), ((0,), 0, 2), ((0,), -1, 0), ((2,), 0, 0), ((0,), 0),
            ((0,), 0, 0, 0), ((), 0, 0), (0, 0, 0), None, [(0,), 0, 0], ([0], 0, 0), "000", ())]
        wrong += [[((False,), 0, 0)] + good[1:], [((0,), False, 0)] + good[1:], [((0,), 0, False)] + good[1:],
                  good[:2] + [((1,), 1, True)], good[:2] + [((True,), 1, 1)], [list(row) for row in good]]
        for value in wrong:
            self.assertIs(is_further_table(WAIT, ahead, behind, value), False)
        self.assertIs(is_further_table(WAIT, ahead, behind, good + [((0,), 1, 0)]), True)

    def test_no_table_where_a_word_breaks(self):
        tuples = list(itertools.product([(0,), (1,)], range(1), range(2)))
        for many in range(5):
            for value in itertools.combinations(tuples, many):
                self.assertIs(is_further_table(WAIT, ANY, RARE, value), False)

    def test_any_word(self):
        for value in ([(0,), (0,), (0,)], ((0,), (0,), (1,)), [(0,), (0,), (1,), (1,)], [(1,), (0,), (0,), (0,)]):
            self.assertIs(is_further_word(circuit=WAIT, ahead=ANY, behind=RARE, value=value), True)
        for value in (None, 5, True, "000", {}, [], (), [(0,)], [(0,), (0,)], [(1,), (0,), (1,)], [(0,), (0,), (False,)], [(0,), (0,), (2,)],
                      [(0,), (0,), ()], [(0,), (0,), None], [[0], [0], [0]], {(0,): 1}, object(), RARE):
            self.assertIs(is_further_word(WAIT, ANY, RARE, value), False)
        zeros, ones = Pattern(1, [{(0,): 0}]), Pattern(1, [{(1,): 0}])
        self.assertEqual([is_further_word(WAIT, zeros, RARE, word) for word in
                          ([(0,), (0,), (1,)], [(0,), (1,), (0,)], [(0,), (0,), (1,), (0,)])], [True, False, False])
        self.assertIs(is_further_word(WAIT, ANY, ones, [(1,)]), True)

    def test_errors(self):
        two = Pattern.any_of(2)
        for call in (keeps_further, further_table, further_word, lambda *args: is_further_table(*args, None),
                     lambda *args: is_further_word(*args, None)):
            self.refuses(OtherWidth, [2, 1], call, WAIT, two, two)
            self.refuses(OtherWidth, [2, 1], call, WAIT, ANY, two)
            self.refuses(TooMany, ["states", 64], call, counter(7), ANY, ANY)


class RingTest(Case):
    def test_structure(self):
        made = ring(late=WAIT, other=FLIP)
        self.assertEqual(made, Circuit([], [("an", "not", ["bn"]), ("bn", "xor", ["aq", "bq"])],
                                       [("aq", 0, "an"), ("bq", 0, "bn")], ["aq", "bn"]))
        # what the other one tells is an input of it
        self.assertEqual(ring(WAIT, TELL), Circuit([], [("an", "not", ["aq"])], [("aq", 0, "an")], ["aq", "aq"]))
        late = Circuit(["x", "y"], [], [("p", 1, "x"), ("q", 0, "y")], ["p"])
        other = Circuit(["z"], [("n", "not", ["z"])], [], ["z", "n"])
        self.assertEqual(ring(late, other), Circuit([], [("bn", "not", ["ap"])], [("ap", 1, "ap"), ("aq", 0, "bn")],
                                                    ["ap", "ap", "bn"]))
        self.assertEqual(ring(NOTHING, NOTHING), NOTHING)

    def test_each_hears_the_other_one(self):
        found = 0
        for seed in range(60):
            parts = late_parts(seed)
            others = random_parts(seed + 9, len(parts[3]), seed % 6, seed % 3, len(parts[0]))
            if parts[0] and not others[0]:
                continue
            found += 1
            made = ring(Circuit(*parts), Circuit(*others))
            told = answer(made, [()] * 12)
            heard = [out[len(parts[3]):] for out in told]
            self.assertEqual([out[:len(parts[3])] for out in told], naive_answer(parts, heard)[0])
            self.assertEqual(heard, naive_answer(others, [out[:len(parts[3])] for out in told])[0])
        self.assertGreater(found, 30)

    def test_limits(self):
        wide = Circuit(list("abcdefg"), [], [("q", 0, "a")], ["q"] * 6)
        back = Circuit(list("abcdef"), [], [], ["a"] * 7)
        self.refuses(TooMany, ["outputs", 8], ring, wide, back)
        self.assertEqual(len(ring(Circuit(list("abcdefg"), [], [("q", 0, "a")], ["q"]), Circuit(["x"], [], [], ["x"] * 7)).outputs()), 8)
        # no input is left, however many there were
        five = Circuit(list("abcde"), [], [("q", 0, "a")], ["q"] * 3)
        self.assertEqual(ring(five, Circuit(list("vwx"), [], [], ["v"] * 5)).inputs(), [])
        many = Circuit(list("abcdefgh"), [], [("q", 0, "a")], [])
        self.refuses(TooMany, ["registers", 8], ring, counter(8, 0, 1), Circuit(["x"], [], [("q", 0, "x")], []))
        self.assertEqual(len(ring(many, Circuit([], [("l", "low", [])], [], ["l"] * 8)).outputs()), 8)
        gates = [("g%d" % k, "low", []) for k in range(100)]
        self.assertEqual(len(ring(Circuit([], gates), Circuit([], gates))), 200)
        self.refuses(TooMany, ["gates", 200], ring, Circuit([], gates + [("h", "low", [])]), Circuit([], gates))

    def test_widths(self):
        two = Circuit(["x", "y"], [], [("q", 0, "x")], ["q", "q"])
        self.refuses(OtherWidth, [1, 2], ring, WAIT, two)
        self.refuses(OtherWidth, [2, 1], ring, two, FLIP)
        self.refuses(OtherWidth, [2, 1], ring, WAIT, Circuit(["x"], [], [], ["x", "x"]))
        self.refuses(OtherWidth, [1, 2], ring, Circuit(["x", "y"], [], [("q", 0, "x")], ["q", "q"]), Circuit(["a", "b"], [], [], ["a"]))

    def test_long_names(self):
        long, longer = "a" * 12, "b" * 12
        error = self.refuses(TooLong, ["b" + long], ring, WAIT, Circuit([long], [(longer, "low", [])], [], [long]))
        self.assertEqual(error.name, "b" + long)
        self.refuses(TooLong, ["a" + longer], ring, Circuit([longer], [], [("q", 0, longer)], ["q"]), Circuit([long], [], [], [long]))
        self.refuses(TooLong, ["a" + long], ring, Circuit([], [(long, "low", [])] + [("g%d" % k, "low", []) for k in range(199)]),
                     Circuit([], [("g", "low", [])]))
        self.assertEqual(ring(WAIT, Circuit(["a" * 11], [], [], ["a" * 11])).outputs(), ["aq", "aq"])


class PromiseTest(Case):
    def test_what_fits_for_ever(self):
        seen = {True: 0, False: 0}
        for seed in range(150):
            parts = late_parts(seed)
            late = Circuit(*parts)
            others = random_parts(seed + 5, len(parts[3]), seed % 5, seed % 2, len(parts[0]))
            if parts[0] and not any(others[:3]):
                continue
            other = Circuit(*others)
            ahead = random_pattern(seed, len(parts[0]), 2, 0.8) | strongest(other, Pattern.any_of(len(parts[3])))
            behind = random_pattern(seed + 300, len(parts[3]), 2, 0.9)
            told = promise(late, other, ahead, behind)
            tables = (further_table(late, ahead, behind), kept_table(other, behind, ahead))
            self.assertEqual(told, None if None in tables else tables)
            seen[told is not None] += 1
            if told is not None:
                self.assertIs(is_promise(late, other, ahead, behind, told), True)
                outs = answer(ring(late, other), [()] * 20)
                self.assertTrue(fits(behind, [out[:len(parts[3])] for out in outs]))
                self.assertTrue(fits(ahead, [out[len(parts[3]):] for out in outs]))
        self.assertGreater(min(seen.values()), 20)

    def test_the_document(self):
        self.assertIsNone(promise(late=WAIT, other=FLIP, ahead=RARE, behind=RARE))
        told = promise(WAIT, TELL, ANY, ANY)
        self.assertEqual(told, ([((0,), 0, 0), ((1,), 0, 0)], [((), 0, 0)]))
        self.assertIs(type(told), tuple)
        self.unlike_lists(told)
        # one of both tables is there
        self.assertIsNone(promise(WAIT, TELL, ANY, RARE))
        self.assertIsNone(promise(WAIT, TELL, RARE, ANY))

    def test_any_value(self):
        good = promise(WAIT, TELL, ANY, ANY)
        self.assertIs(is_promise(late=WAIT, other=TELL, ahead=ANY, behind=ANY, value=(tuple(good[0]), good[1][::-1])), True)
        for value in (None, 5, True, "", {}, [], (), list(good), good[::-1], good[:1], good + good, (good[0], None), (None, good[1]),
                      (good[0], []), ([], good[1]), (good[0][:1], good[1]), (good[0], good[1] * 2), object()):
            self.assertIs(is_promise(WAIT, TELL, ANY, ANY, value), False)

    def test_errors(self):
        two = Pattern.any_of(2)
        for call in (promise, lambda *args: is_promise(*args, None)):
            self.refuses(OtherWidth, [1, 0], call, WAIT, NOTHING, two, two)
            self.refuses(OtherWidth, [0, 1], call, WAIT, Circuit(["x"]), two, two)
            self.refuses(OtherWidth, [2, 1], call, WAIT, FLIP, two, Pattern.any_of(3))
            self.refuses(OtherWidth, [3, 1], call, WAIT, FLIP, ANY, Pattern.any_of(3))
            self.refuses(TooMany, ["states", 64], call, counter(7), FLIP, ANY, ANY)
            self.refuses(TooMany, ["states", 64], call, WAIT, counter(7), ANY, ANY)
            five = Circuit(list("abcde"), [], [("q", 0, "a")], ["q"])
            self.refuses(OtherWidth, [1, 5], call, five, Circuit(["x"], [], [], ["x"] * 5), ANY, ANY)
        # the ring would have too many registers, but no ring is made
        self.assertIs(is_promise(counter(5), counter(4), ANY, ANY, promise(counter(5), counter(4), ANY, ANY)), True)


class PlayerTest(Case):
    def naive_told(self, pattern, word, many):
        told, place = list(word), pattern.place_of(word)
        while len(told) < many:
            letter = min(pattern.leads(place))
            told.append(letter)
            place = pattern.leads(place)[letter]
        return told[:many]

    def check(self, pattern, word, width):
        made = player(pattern=pattern, word=word, width=width)
        self.assertEqual([len(made.inputs()), len(made.outputs())], [width, pattern.width])
        machine = machine_of(made)
        self.assertLessEqual(len(machine), 64)
        chance = random.Random(width)
        heard = [chance.choice(letters_of(width)) for _ in range(len(word) + 80)]
        self.assertEqual(answer(made, heard), self.naive_told(pattern, word, len(word) + 80))
        self.assertEqual(answer(made, heard[::-1]), answer(made, heard))
        return made

    def test_this_word_then_the_least_letters(self):
        for seed in range(60):
            pattern = random_pattern(seed, seed % 3, 1 + seed % 6, 0.6)
            if can_last(pattern):
                pattern = lasting_part(pattern)
                words = [word for word in some_words(pattern.width) if fits(pattern, word)]
                for word in words[::max(1, len(words) // 4)]:
                    self.check(pattern, word, seed % 5)

    def test_widths_and_the_empty_word(self):
        for width in range(5):
            self.check(RARE, [], width)
            self.check(Pattern.any_of(width), [], 4 - width)
            self.check(Pattern.any_of(width), tuple(letters_of(width)), 4 - width)
        self.check(Pattern.any_of(4), letters_of(4) * 3, 4)
        self.assertEqual(player(RARE, [(1,)], 1), player(RARE, [(1,)], 1))

    def test_64_states_and_one_more(self):
        rest = ring_of(1, 60)
        word = [(0,)] * 4
        self.check(rest, word, 2)
        self.refuses(TooMany, ["states", 64], player, rest, word + [(0,)], 2)
        self.check(RARE, [(1,), (0,)] * 31 + [(0,)], 1)
        self.check(RARE, [(1,), (0,)] * 31 + [(1,)][:0], 1)
        self.refuses(TooMany, ["states", 64], player, RARE, [(1,), (0,)] * 32, 1)
        # behind an odd one a place more is come to
        self.refuses(TooMany, ["states", 64], player, RARE, [(1,), (0,)] * 31 + [(1,)], 1)
        chance = random.Random(3)
        self.check(Pattern.any_of(4), [tuple(chance.randrange(2) for _ in range(4)) for _ in range(63)], 4)

    def test_errors_in_their_sequence(self):
        made = Pattern(1, [{(0,): 1, (1,): 3}, {(0,): 3}, {}, {}])
        for args in ((None, None), ([(1,)], 9), ([(1,), (1,)], 1)):
            self.refuses(NotLasting, [3], player, made, *args)
        self.refuses(NotLasting, [0], player, END, [], 1)
        # a place that is not come to may end
        self.assertEqual(len(player(Pattern(1, [{(0,): 0}, {}]), [], 0).registers()), 0)
        for value in (None, 5, "1", [0], [()], [(0, 0)], [(2,)], [(True,)], [[0]], {(0,): 1}, object()):
            self.refuses_value(InvalidWord, value, player, RARE, value, None)
        for value in (5, -1, True, False, None, "1", (1,), [], object()):
            self.refuses_value(InvalidWidth, value, player, RARE, [(1,), (1,)], value)
        for word in ([(1,), (1,)], ((0,), (1,), (1,)), [(1,)] * 70):
            error = self.refuses(NotFitting, [word], player, RARE, word, 1)
            self.assertIs(error.word, word)


class SpoilerTest(Case):
    def test_one_of_both(self):
        seen = {True: 0, False: 0}
        for seed, (parts, circuit, ahead, behind) in enumerate(some_late(150)):
            if not can_last(ahead):
                continue
            ahead = lasting_part(ahead)
            kept = keeps_further(circuit, ahead, behind)
            told = spoiler(circuit, ahead, behind)
            self.assertIs(told is None, kept)
            seen[kept] += 1
            if told is not None:
                self.assertIs(is_spoiler(circuit, ahead, behind, told), True)
                self.check_spoils(circuit, ahead, behind, told)
                word = further_word(circuit, ahead, behind)
                self.assertIs(is_spoiler(circuit, ahead, behind, player(ahead, word[:-1], behind.width)), True)
                self.assertIsNone(promise(circuit, told, ahead, behind))
            for other in (Circuit(*random_parts(seed, len(parts[3]), 3, 2, len(parts[0]))),):
                if len(other.outputs()) == len(parts[0]):
                    judged = is_spoiler(circuit, ahead, behind, other)
                    self.assertIs(judged, self.spoils(circuit, ahead, behind, other))
                    self.assertFalse(judged and kept)
        self.assertGreater(min(seen.values()), 15)

    def spoils(self, circuit, ahead, behind, other):
        outs = answer(ring(circuit, other), [()] * 600)
        return keeps(other, behind, ahead) and not fits(behind, [out[:behind.width] for out in outs])

    def check_spoils(self, circuit, ahead, behind, other):
        self.assertEqual([len(other.inputs()), len(other.outputs())], [behind.width, ahead.width])
        self.assertTrue(keeps(other, behind, ahead))
        self.assertLessEqual(len(machine_of(other)), 64)
        if len(circuit.registers()) + len(other.registers()) <= 8:
            self.assertTrue(self.spoils(circuit, ahead, behind, other))

    def test_ordinary(self):
        told = spoiler(circuit=WAIT, ahead=ANY, behind=RARE)
        self.check_spoils(WAIT, ANY, RARE, told)
        self.assertIsNone(spoiler(WAIT, ANY, ANY))
        self.assertIs(is_spoiler(circuit=WAIT, ahead=ANY, behind=RARE, value=told), True)
        ones = Circuit(["x"], [("h", "high", [])], [], ["h"])
        lows = Circuit(["x"], [("h", "low", [])], [], ["h"])
        self.assertEqual([is_spoiler(WAIT, ANY, RARE, ones), is_spoiler(WAIT, ANY, RARE, lows), is_spoiler(WAIT, ANY, RARE, TELL)],
                         [False, True, False])
        # it spoils, but does not keep
        self.assertIs(is_spoiler(WAIT, Pattern(1, [{(1,): 0}]), RARE, lows), False)

    def test_any_value(self):
        for value in (None, 5, True, "", {}, [], (), (TELL,), WAIT.gates(), RARE, object(), NOTHING, Circuit(["x"]),
                      Circuit([], [("l", "low", [])], [], ["l"]), Circuit(["x", "y"], [], [], ["x"]), Circuit(["x"], [], [], ["x", "x"])):
            self.assertIs(is_spoiler(WAIT, ANY, RARE, value), False)
        # of too many states, though it would spoil; with 64 it is one
        for registers, right in ((6, True), (7, False)):
            made = counter(registers)
            zero = Circuit(["x0"], made.gates() + [("l", "low", [])], made.registers(), ["l"])
            self.assertIs(is_spoiler(WAIT, ANY, RARE, zero), right)

    def test_a_ring_of_too_many_registers(self):
        late = counter(5)
        word = further_word(late, ANY, RARE)
        self.assertEqual([len(word), word], [18, [(0,)] * 18])
        told = spoiler(late, ANY, RARE)
        self.assertGreater(len(late.registers()) + len(told.registers()), 8)
        self.refuses(TooMany, ["registers", 8], ring, late, told)
        self.assertIs(is_spoiler(late, ANY, RARE, told), True)

    def test_a_player_of_64_states_and_one_more(self):
        # the counter tells its highest bit, 1 from the 33rd letter on, and rare lets that just once
        six = counter(6)
        self.assertEqual(len(further_word(six, ANY, RARE)), 34)
        self.assertIs(is_spoiler(six, ANY, RARE, spoiler(six, ANY, RARE)), True)
        for places, error in ((31, None), (32, TooMany)):
            ahead = ring_of(1, places, places - 1)
            if error is None:
                self.assertIs(is_spoiler(six, ahead, RARE, spoiler(six, ahead, RARE)), True)
            else:
                self.refuses(TooMany, ["states", 64], spoiler, six, ahead, RARE)
                self.assertIs(is_spoiler(six, ahead, RARE, None), False)

    def test_errors_in_their_sequence(self):
        two = Pattern.any_of(2)
        for call in (spoiler, lambda *args: is_spoiler(*args, None)):
            self.refuses(NotLate, ["n"], call, FLIP, two, two)
            self.refuses(OtherWidth, [2, 1], call, WAIT, two, Pattern.any_of(3))
            self.refuses(OtherWidth, [3, 1], call, WAIT, END, Pattern.any_of(3))
            self.refuses(NotLasting, [0], call, counter(7), END, ANY)
            self.refuses(NotLasting, [1], call, WAIT, Pattern(1, [{(0,): 0, (1,): 1}, {}, {}]), ANY)
            self.refuses(TooMany, ["states", 64], call, counter(7), ANY, ANY)
