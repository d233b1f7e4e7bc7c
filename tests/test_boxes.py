"""Points [91] and [92], wirewords/boxes.py; of point [4] what "Exchanged or not" says of boxes within a pattern."""

import random

from tests.boxing import (
    BOTH, EITHER, NOTHING, SHOWN, TELL, TURN, has_ring, joint_answer, joint_parts, random_box, some_frames,
)
from tests.helping import ODD, Case, letters_of
from tests.machining import FLIP, WAIT, counter, fits, naive_place, random_pattern, words_of
from tests.papers import is_bits, is_int, is_listed, some_variants, variants
from wirewords.alike import parting
from wirewords.boxes import (
    Frame, alike_within, feeding, is_relation_within, parting_within, put_in, relation_within, stands,
)
from wirewords.circuits import Circuit
from wirewords.errors import GateRing, OtherWidth, OtherWidths, TooLong, TooMany
from wirewords.made import with_outputs
from wirewords.maps import keeps
from wirewords.patterns import Pattern
from wirewords.refusals import DoesNotFit, InvalidFeeds, InvalidHoles
from wirewords.runs import answer, step
from wirewords.states import machine_of
from wirewords.strongest import strongest

ANY = Pattern.any_of(1)
WIDE = Circuit(list("abcdefgh"), [], [], ["a"])


def some_words(width, seed, many=3):
    chance = random.Random(seed)
    for length in range(many):
        yield [chance.choice(letters_of(width)) for _ in range(4 * length)]


class FrameTest(Case):
    def test_parts(self):
        circuit = Circuit(["p", "q", "h"], [("o", "and", ["h", "p"])], [], ["o"])
        frame = Frame(circuit=circuit, feeds=["o", "p", "o"], holes=("h",))
        self.assertEqual([frame.circuit is circuit, frame.feeds(), frame.holes()], [True, ["o", "p", "o"], ["h"]])
        self.assertEqual(repr(frame), "Frame(" + repr(circuit) + ", ['o', 'p', 'o'], ['h'])")
        self.assertEqual(repr(Frame(NOTHING, [], ())), "Frame(Circuit([], [], [], []), [], [])")
        for told in (frame.feeds, frame.holes):
            told().append("x")
        self.assertEqual([frame.feeds(), frame.holes()], [["o", "p", "o"], ["h"]])
        feeds, holes = ["p"], ["h"]
        kept = Frame(circuit, feeds, holes)
        feeds.append("q")
        holes.append("q")
        self.assertEqual([kept.feeds(), kept.holes()], [["p"], ["h"]])

    def test_equal(self):
        circuit = SHOWN.circuit
        self.assertIs(SHOWN == Frame(Circuit(*map(list, [["p", "q", "h"], circuit.gates(), [], ["o"]])), ("p", "q"), ["h"]), True)
        for other in (Frame(circuit, ["q", "p"], ["h"]), Frame(circuit, ["p", "q"], []), Frame(circuit, ["p"], ["h"]), circuit, None, repr(SHOWN),
                      Frame(Circuit(["p", "q", "h"], circuit.gates(), [], []), ["p", "q"], ["h"]), (circuit, ["p", "q"], ["h"])):
            self.assertIs(SHOWN == other, False)
            self.assertIs(SHOWN != other, True)
        two = Circuit(["p", "q", "h"], [], [], [])
        self.assertIs(Frame(two, [], ["q", "h"]) == Frame(two, [], ["h", "q"]), False)

    def test_wrong_feeds(self):
        circuit = SHOWN.circuit
        for value in (None, 1, True, "pq", "", {}, {"p": 1}, object(), {"p"}):
            self.refuses(InvalidFeeds, [None], Frame, circuit, value, None)
        for value in [None, 0, True, "", "z", ("p",), ["p"], {}, "P", object()]:
            self.refuses(InvalidFeeds, [1], Frame, circuit, ["p", value, None], None)
            self.refuses(InvalidFeeds, [0], Frame, holes=None, feeds=(value,), circuit=circuit)

    def test_wrong_holes(self):
        circuit = Circuit(["p", "q", "h"], [("o", "and", ["h", "p"])], [("r", 0, "o")], ["o"])
        for value in (None, 1, True, "h", "", {}, {"h": 1}, object()):
            self.refuses(InvalidHoles, [None], Frame, circuit, ["p"], value)
        # no wire, no input, one that stands earlier, one that is a feed
        for value in [None, 0, True, "", "z", ("q",), ["q"], "o", "r", "h", "p", object()]:
            self.refuses(InvalidHoles, [1], Frame, circuit, ["p", "o"], ["h", value, None])
        self.refuses(InvalidHoles, [0], Frame, holes=("p",), feeds=["p"], circuit=circuit)
        self.assertEqual(Frame(circuit, ["r", "o"], ["p", "q", "h"]).holes(), ["p", "q", "h"])

    def test_bare(self):
        frame = Frame.bare(BOTH)
        self.assertEqual(frame, Frame(Circuit(["f0", "f1", "h0"], [], [], ["h0"]), ["f0", "f1"], ["h0"]))
        self.assertEqual(Frame.bare(box=NOTHING), Frame(NOTHING, [], []))
        self.assertEqual(Frame.bare(FLIP).circuit.inputs(), ["f0", "h0"])
        for seed in range(40):
            box = random_box(seed, seed % 4, seed % 3, seed % 3)
            whole = put_in(Frame.bare(box), box)
            self.assertEqual([whole.inputs(), len(whole.outputs())], [["af%d" % at for at in range(seed % 4)], seed % 3])
            for word in some_words(seed % 4, seed):
                self.assertEqual(answer(whole, word), answer(box, word))
        eight = Circuit(list("abcd"), [], [], list("abcd"))
        self.assertEqual(len(Frame.bare(eight).circuit.inputs()), 8)
        self.refuses(TooMany, ["inputs", 8], Frame.bare, WIDE)
        self.refuses(TooMany, ["inputs", 8], Frame.bare, Circuit(list("abcde"), [], [], list("abcd")))


class PutInTest(Case):
    def test_against_both_together(self):
        seen = {True: 0, False: 0}
        for seed, (frame, box) in enumerate(some_frames(200)):
            inputs, parts, ends, feeds = joint_parts(frame, box)
            right = not has_ring(parts)
            self.assertIs(stands(frame, box), right)
            seen[right] += 1
            if not right:
                with self.assertRaises(GateRing) as caught:
                    put_in(frame, box)
                self.refuses(GateRing, [caught.exception.name], feeding, frame, box)
                continue
            whole, told = put_in(frame, box), feeding(frame, box)
            gates = sorted((name, kind, rest[0]) for name, (kind, *rest) in parts.items() if kind != "register")
            registers = sorted((name, rest[0], rest[1]) for name, (kind, *rest) in parts.items() if kind == "register")
            self.assertEqual(whole, Circuit(inputs, gates, registers, ends))
            self.assertEqual(told, Circuit(inputs, gates, registers, feeds))
            for word in some_words(len(inputs), seed):
                self.assertEqual(answer(whole, word), joint_answer(frame, box, word, ends))
                self.assertEqual(answer(told, word), joint_answer(frame, box, word, feeds))
        self.assertGreater(min(seen.values()), 15)

    def test_the_document(self):
        whole = put_in(frame=SHOWN, box=BOTH)
        self.assertEqual(whole, Circuit(["ap", "aq"], [("ao", "and", ["bg", "ap"]), ("bg", "and", ["ap", "aq"])], [], ["ao"]))
        self.assertEqual(feeding(frame=SHOWN, box=BOTH).outputs(), ["ap", "aq"])
        self.assertIs(stands(frame=SHOWN, box=EITHER), True)

    def test_box_outputs_that_are_inputs_and_a_feed_twice(self):
        frame = Frame(Circuit(["p", "h"], [("n", "not", ["p"])], [], ["h", "p"]), ["n", "n"], ["h"])
        second = Circuit(["x", "y"], [], [], ["y"])
        self.assertEqual(put_in(frame, second), Circuit(["ap"], [("an", "not", ["ap"])], [], ["an", "ap"]))
        self.assertEqual(put_in(frame, BOTH).sources("bg"), ["an", "an"])
        # without holes and feeds the box stands beside
        alone = put_in(Frame(FLIP, [], []), Circuit([], [("l", "low", [])], [], []))
        self.assertEqual([alone.gates(), alone.outputs()], [[("an", "xor", ["ax", "aq"]), ("bl", "low", [])], ["an"]])

    def test_rings_through_gates_and_registers(self):
        back = Frame(Circuit(["h"], [("n", "not", ["h"])], [], ["n"]), ["n"], ["h"])
        self.assertEqual([stands(back, TELL), stands(back, TURN), stands(back, WAIT)], [False, False, True])
        self.refuses(GateRing, ["an"], put_in, back, TELL)
        self.refuses(GateRing, ["an"], put_in, back, TURN)
        self.assertEqual(answer(put_in(back, WAIT), [()] * 3), [(1,), (1,), (1,)])
        slow = Frame(Circuit(["h"], [], [("r", 1, "h")], ["r"]), ["r"], ["h"])
        self.assertEqual([stands(slow, TURN), answer(put_in(slow, TURN), [()] * 3)], [True, [(1,), (0,), (1,)]])
        # a ring of the gates that read, not those that are read
        late = Frame(Circuit(["h"], [("m", "and", ["h", "n"]), ("n", "or", ["h", "h"])], [], ["m"]), ["n"], ["h"])
        self.refuses(GateRing, ["an"], put_in, late, TURN)

    def test_names_of_twelve_signs_and_of_eleven(self):
        eleven, twelve = "a" * 11, "a" * 12
        frame = Frame(Circuit([eleven, "h"], [], [], ["h"]), [eleven], ["h"])
        self.assertEqual(put_in(frame, TELL).inputs(), ["a" + eleven])
        wrong = Frame(Circuit([twelve, "h"], [("z" * 12, "not", ["h"])], [], ["h"]), [twelve], ["h"])
        self.refuses(TooLong, ["a" + twelve], put_in, wrong, TELL)
        self.refuses(TooLong, ["a" + twelve], feeding, wrong, Circuit(["x"], [("b" * 12, "not", ["x"])], [], ["x"]))
        # names of what goes do not count
        gone = Frame(Circuit(["p", "h" * 12], [], [], ["p"]), ["p"], ["h" * 12])
        box = Circuit(["x" * 12], [("n", "not", ["x" * 12])], [("r", 0, "n")], ["n"])
        self.assertEqual(sorted(put_in(gone, box).wires()), ["ap", "bn", "br"])
        self.refuses(TooLong, ["b" + "n" * 12], put_in, gone, Circuit(["x"], [], [("n" * 12, 0, "x")], ["x"]))
        # names that are too long come ahead of rings
        back = Frame(Circuit(["h"], [("n" * 12, "not", ["h"])], [], []), ["n" * 12], ["h"])
        self.refuses(TooLong, ["a" + "n" * 12], put_in, back, TURN)
        self.assertIs(stands(back, TURN), False)

    def test_too_many(self):
        registers = [("r%d" % at, 0, "p") for at in range(8)]
        frame = Frame(Circuit(["p", "h"], [("n", "not", ["h"])], registers, ["h"]), ["p"], ["h"])
        self.assertEqual(len(put_in(frame, TELL).registers()), 8)
        self.refuses(TooMany, ["registers", 8], put_in, frame, WAIT)
        self.refuses(TooMany, ["registers", 8], feeding, frame, WAIT)
        self.assertIs(stands(frame, WAIT), True)
        gates = [("g%d" % at, "low", []) for at in range(200)]
        many = Frame(Circuit(["p", "h"], gates, registers, ["h"]), ["p"], ["h"])
        self.assertEqual(len(put_in(many, TELL)), 200)
        self.refuses(TooMany, ["gates", 200], put_in, many, TURN)
        self.refuses(TooMany, ["gates", 200], put_in, many, Circuit(["x"], [("n", "not", ["q"])], [("q", 0, "n")], ["n"]))
        ring = Frame(Circuit(["h"], gates + [], [], []), ["g0"], ["h"])
        self.assertIs(stands(ring, TURN), True)
        back = Frame(Circuit(["h"], gates[1:] + [("g0", "not", ["h"])], registers[:0], []), ["g0"], ["h"])
        self.refuses(GateRing, ["ag0"], put_in, back, TURN)
        whole = Frame(WIDE, list("abcdefgh"), [])
        self.assertEqual(len(put_in(whole, Circuit(list("abcdefgh"), [], [], [])).inputs()), 8)

    def test_boxes_that_do_not_fit(self):
        for box in (TELL, NOTHING, Circuit(["x", "y"], [], [], []), Circuit(["x", "y"], [], [], ["x", "y"]), Circuit(list("xyz"), [], [], ["x"])):
            for call in (put_in, feeding, stands):
                with self.assertRaises(DoesNotFit) as caught:
                    call(SHOWN, box)
                self.assertTrue(caught.exception.frame is SHOWN and caught.exception.box is box)
        wrong = Frame(Circuit(["p", "h"], [("z" * 12, "not", ["h"])], [], []), ["p"], ["h"])
        self.refuses(DoesNotFit, [wrong, BOTH], put_in, wrong, BOTH)

    def test_alike_boxes_in_each_frame(self):
        found = {True: 0, False: 0}
        for frame, one, other in some_frames(150, 2):
            if not (stands(frame, one) and stands(frame, other)):
                continue
            right = parting(machine_of(one), machine_of(other)) is None
            whole, twin = put_in(frame, one), put_in(frame, other)
            found[right] += 1
            if right:
                self.assertIsNone(parting(machine_of(whole), machine_of(twin)))
            else:
                bare, second = put_in(Frame.bare(one), one), put_in(Frame.bare(other), other)
                word = parting(machine_of(one), machine_of(other))
                self.assertEqual(parting(machine_of(bare), machine_of(second)), word)
                self.assertNotEqual(answer(bare, word), answer(second, word))
        self.assertGreater(min(found.values()), 10)


def naive_within(one, other, pattern, most):
    """The least word with at most so many letters that fits and parts two boxes."""
    for word in words_of(pattern.width, most):
        if fits(pattern, word) and answer(one, word) != answer(other, word):
            return word
    return None


def naive_tuples(one, other, pattern):
    start = (one.first(), other.first(), 0)
    met = [start]
    for state, twin, place in met:
        for letter, goal in pattern.goes()[place].items():
            there = (step(one, state, letter)[1], step(other, twin, letter)[1], goal)
            if there not in met:
                met.append(there)
    return met


def naive_is_relation(one, other, pattern, value):
    if not is_listed(value):
        return False
    for row in value:
        if type(row) is not tuple or len(row) != 3 or not is_bits(row[0], len(one.first())) or not is_bits(row[1], len(other.first())):
            return False
        if not is_int(row[2], 0, len(pattern)):
            return False
    if len(set(value)) < len(value) or (one.first(), other.first(), 0) not in value:
        return False
    for state, twin, place in value:
        for letter, goal in pattern.goes()[place].items():
            (said, further), (heard, following) = step(one, state, letter), step(other, twin, letter)
            if said != heard or (further, following, goal) not in value:
                return False
    return True


def some_pairs(many):
    for seed in range(many):
        width, outputs = seed % 3, 1 + seed % 2
        one = random_box(seed, width, outputs, seed % 3)
        other = one if seed % 5 == 0 else random_box(seed + 300, width, outputs, (seed + 1) % 3)
        yield one, other, random_pattern(seed, width, 1 + seed % 3, (0.3, 0.6, 0.9)[seed % 3])


class WithinTest(Case):
    def test_one_of_both(self):
        seen = {True: 0, False: 0}
        for one, other, pattern in some_pairs(150):
            word = naive_within(one, other, pattern, {0: 9, 1: 6, 2: 3}[pattern.width])
            told, table = parting_within(one, other, pattern), relation_within(one, other, pattern)
            self.assertEqual([told is None, alike_within(one, other, pattern)], [table is not None] * 2)
            seen[told is None] += 1
            if word is not None:
                self.assertEqual(told, word)
            if told is not None:
                self.assertTrue(fits(pattern, told) and answer(one, told) != answer(other, told))
                self.assertEqual(answer(one, told)[:-1], answer(other, told)[:-1])
            else:
                self.assertEqual(table, sorted(naive_tuples(one, other, pattern)))
                self.assertIs(is_relation_within(one, other, pattern, table), True)
                self.assertIs(naive_is_relation(one, other, pattern, table), True)
        self.assertGreater(min(seen.values()), 30)

    def test_any_value(self):
        seen = {True: 0, False: 0}
        for one, other, pattern in some_pairs(60):
            told = relation_within(one, other, pattern) or [(one.first(), other.first(), 0)]
            for value in [told, tuple(told)] + some_variants(told, 50) + ODD:
                right = naive_is_relation(one, other, pattern, value)
                self.assertIs(is_relation_within(one, other, pattern, value), right)
                seen[right] += 1
        self.assertGreater(min(seen.values()), 80)
        # tuples more than are come to
        more = [((0,), (0,), 0), ((1,), (1,), 0)]
        self.assertEqual([relation_within(FLIP, FLIP, Pattern(1, [{(0,): 0}])), is_relation_within(FLIP, FLIP, Pattern(1, [{(0,): 0}]), more)],
                         [more[:1], True])
        self.assertIs(is_relation_within(one=FLIP, other=FLIP, pattern=ANY, value=more), True)
        self.assertIs(is_relation_within(FLIP, FLIP, ANY, more + more[:1]), False)

    def test_ordinary(self):
        self.assertEqual([alike_within(one=TELL, other=TURN, pattern=ANY), parting_within(one=TELL, other=TURN, pattern=ANY)], [False, [(0,)]])
        self.assertEqual([relation_within(one=TELL, other=TURN, pattern=Pattern(1, [{}])), parting_within(TELL, TURN, Pattern(1, [{}]))],
                         [[((), (), 0)], None])
        # only the first letter may be 1
        once = Pattern(1, [{(1,): 1, (0,): 1}, {(0,): 1}])
        self.assertEqual([parting_within(FLIP, WAIT, once), parting_within(FLIP, TELL, once)], [[(1,)], [(1,), (0,)]])

    def test_where_the_feeds_tell_words_that_fit(self):
        found = 0
        for frame, one, other in some_frames(400, 2):
            if not (stands(frame, one) and stands(frame, other)) or len(frame.feeds()) == 0:
                continue
            fed = strongest(feeding(frame, one), Pattern.any_of(len(put_in(frame, one).inputs())))
            self.assertIs(keeps(feeding(frame, one), Pattern.any_of(len(put_in(frame, one).inputs())), fed), True)
            if alike_within(one, other, fed) and parting(machine_of(one), machine_of(other)) is not None:
                self.assertIsNone(parting(machine_of(put_in(frame, one)), machine_of(put_in(frame, other))))
                found += 1
        self.assertGreater(found, 5)

    def test_wrong_ones(self):
        two = Pattern.any_of(2)
        calls = (alike_within, relation_within, parting_within, lambda one, other, pattern: is_relation_within(one, other, pattern, None))
        for call in calls:
            for one, other in ((TELL, BOTH), (BOTH, TELL), (TELL, Circuit(["x"], [], [], [])), (NOTHING, TELL)):
                with self.assertRaises(OtherWidths) as caught:
                    call(one, other, two)
                self.assertTrue(caught.exception.one is one and caught.exception.other is other)
            self.refuses(OtherWidth, [2, 1], call, TELL, TURN, two)
            self.refuses(OtherWidth, [1, 2], call, BOTH, EITHER, ANY)
            self.refuses(OtherWidth, [2, 8], call, WIDE, WIDE, two)

    def test_2000_tuples_and_one_more(self):
        # counters to 250 and to 16 come to 2,000 tuples, by a letter that goes round one place
        one, other = counter(8, limit=250), counter(4)
        once, twice = Pattern(1, [{(0,): 0}]), Pattern(1, [{(0,): 1}, {(0,): 1}])
        told = [word for word in ([(0,)] * many for many in range(20)) if answer(one, word) != answer(other, word)][0]
        self.assertEqual([alike_within(one, other, once), parting_within(one, other, once), relation_within(one, other, once)], [False, told, None])
        # by the words all tuples count, also behind the word that parts the boxes
        for call in (alike_within, relation_within, parting_within):
            self.refuses(TooMany, ["tuples", 2000], call, one, other, twice)
        same = with_outputs(one, ["one"]), with_outputs(other, ["one"])
        self.assertEqual([len(relation_within(*same, once)), parting_within(*same, once)], [2000, None])
        self.refuses(TooMany, ["tuples", 2000], relation_within, *same, twice)
        states = [(state, twin) for state, twin, _ in relation_within(*same, once)]
        value = [(one.first(), other.first(), 0)] + [(state, twin, 1) for state, twin in states]
        self.assertEqual([len(value), is_relation_within(*same, twice, value), is_relation_within(*same, twice, value[:-1])], [2001, True, False])

    def test_repeated_and_unchanged(self):
        for one, other, pattern in some_pairs(12):
            texts = [repr(one), repr(other), repr(pattern)]
            for call in (alike_within, relation_within, parting_within):
                self.assertEqual(call(one, other, pattern), call(one, other, pattern))
            self.assertEqual(texts, [repr(one), repr(other), repr(pattern)])
        self.assertEqual([naive_place(ANY, []), len(list(variants([]))) > 3], [0, True])
