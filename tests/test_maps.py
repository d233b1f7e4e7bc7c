"""Points [54] and [55] as to the weakest pattern ahead, wirewords/maps.py; of point [4] "Kept or broken"."""

import itertools

from tests.helping import Case, letters_of
from tests.machining import (
    FLIP, NOTHING, RARE, WAIT, counter, fits, naive_answer, random_pattern, reached, ring_of, some_circuits, words_of,
)
from wirewords.circuits import Circuit
from wirewords.errors import OtherWidth, TooMany
from wirewords.made import behind as put_behind
from wirewords.maps import (
    breaking_word, is_breaking_word, is_kept_table, is_weakest_table, kept_table, keeps, weakest, weakest_table,
)
from wirewords.patterns import Pattern, fit_alike, lies_within
from wirewords.states import machine_of

ANY = Pattern.any_of(1)


def some_maps(many):
    """Parts, circuits, patterns ahead and behind; each third pattern ahead is the weakest one."""
    for seed, (parts, circuit) in enumerate(some_circuits(many)):
        ahead = random_pattern(seed, len(parts[0]), 1 + seed % 3, 0.6)
        behind = random_pattern(seed + 500, len(parts[3]), 1 + seed % 4, 0.8)
        if seed % 3 == 0:
            ahead = ahead & weakest(circuit, behind)
        yield parts, circuit, ahead, behind


def some_words(width, ahead=None, most=None):
    lengths = {0: 12, 1: 6, 2: 3, 3: 2}
    words = words_of(width, lengths[width] if most is None else most)
    return [word for word in words if ahead is None or fits(ahead, word)]


class KeepsTest(Case):
    def test_one_of_both(self):
        seen = {True: 0, False: 0}
        for parts, circuit, ahead, behind in some_maps(120):
            broken = [word for word in some_words(len(parts[0]), ahead) if not fits(behind, naive_answer(parts, word)[0])]
            word, told = breaking_word(circuit, ahead, behind), kept_table(circuit, ahead, behind)
            if broken or word is None:
                self.assertEqual(word, broken[0] if broken else None)
            self.assertIs(told is None, word is not None)
            self.assertIs(keeps(circuit, ahead, behind), word is None)
            seen[word is None] += 1
            if word is None:
                self.assertIs(is_kept_table(circuit, ahead, behind, told), True)
                self.check_table(parts, ahead, behind, told)
            else:
                self.assertIs(is_breaking_word(circuit, ahead, behind, word), True)
                self.assertTrue(fits(ahead, word))
                self.assertFalse(fits(behind, naive_answer(parts, word)[0]))
        self.assertGreater(min(seen.values()), 20)

    def check_table(self, parts, ahead, behind, told):
        met = [(naive_answer(parts, [])[1], 0, 0)]
        for state, place, twin in met:
            for letter, goal in ahead.leads(place).items():
                out, there = naive_answer(parts, [letter], state)
                following = (there, goal, behind.leads(twin)[out[0]])
                if following not in met:
                    met.append(following)
        self.assertEqual(told, sorted(met))

    def test_the_document(self):
        self.assertEqual(breaking_word(circuit=FLIP, ahead=RARE, behind=RARE), [(1,), (0,)])
        self.assertEqual(kept_table(circuit=FLIP, ahead=weakest(FLIP, RARE), behind=RARE), [((0,), 0, 0), ((1,), 1, 1)])
        self.assertEqual([keeps(circuit=FLIP, ahead=RARE, behind=RARE), kept_table(FLIP, RARE, RARE)], [False, None])
        self.assertIsNone(breaking_word(FLIP, weakest(FLIP, RARE), RARE))
        self.unlike_lists(kept_table(FLIP, ANY, ANY))

    def test_nothing_there(self):
        none, end = Pattern.any_of(0), Pattern(0, [{}])
        self.assertEqual([kept_table(NOTHING, none, none), breaking_word(NOTHING, none, end), keeps(NOTHING, end, end)],
                         [[((), 0, 0)], [()], True])
        silent, loud = Circuit(["x"], [], [("q", 0, "x")], []), Circuit([], [], [("q", 1, "q")], ["q", "q"])
        self.assertEqual(kept_table(silent, ANY, none), [((0,), 0, 0), ((1,), 0, 0)])
        self.assertEqual([breaking_word(loud, none, Pattern(2, [{(1, 1): 1}, {}])), kept_table(loud, end, Pattern(2, [{}]))],
                         [[(), ()], [((1,), 0, 0)]])

    def test_the_greatest(self):
        circuit = counter(6, 4, 4)
        table = kept_table(circuit, Pattern.any_of(4), Pattern.any_of(4))
        self.assertEqual([len(table), is_kept_table(circuit, Pattern.any_of(4), Pattern.any_of(4), table)], [64, True])
        word = breaking_word(counter(6), ring_of(1, 59), Pattern(1, [{(0,): 1}] + [{(0,): at, (1,): at} for at in (2, 3)] + [{(0,): 3}]))
        self.assertEqual([len(word), set(word)], [33, {(0,)}])

    def test_any_table(self):
        ahead = weakest(FLIP, RARE)
        good = [((0,), 0, 0), ((1,), 1, 1)]
        for value in (good, tuple(good), good[::-1], good + [((0,), 0, 1)][:0]):
            self.assertIs(is_kept_table(circuit=FLIP, ahead=ahead, behind=RARE, value=value), True)
        wrong = [None, 5, True, "0", {}, {row: 1 for row in good}, [], (), object(), good[:1], good[1:], FLIP]
        wrong += [good + [each] for each in (
            good[0], ((0,), 1, 1), ((1,), 0, 1), ((0,), 0, 1), ((1,), 0, 0), ((0,), 2, 0), ((0,), 0, 2), ((0,), -1, 0), ((2,), 0, 0),
            ((0,), 0), ((0,), 0, 0, 0), ((), 0, 0), ((0, 0), 0, 0), (0, 0, 0), None, [(0,), 0, 0], ([0], 0, 0), "000", ())]
        wrong += [[((False,), 0, 0), good[1]], [((0,), False, 0), good[1]], [((0,), 0, False), good[1]], [good[0], ((1,), True, 1)],
                  [good[0], ((1,), 1, True)], [good[0], ((True,), 1, 1)], [list(row) for row in good]]
        for value in wrong:
            self.assertIs(is_kept_table(FLIP, ahead, RARE, value), False)
        # a tuple that is not come to, but with all that comes of it
        self.assertIs(is_kept_table(FLIP, ahead, ANY, [((0,), 0, 0), ((1,), 1, 0)]), True)
        self.assertIs(is_kept_table(FLIP, ahead, ANY, [((0,), 0, 0), ((1,), 1, 0), ((1,), 0, 0)]), False)
        self.assertIs(is_kept_table(FLIP, ahead, ANY, [((0,), 0, 0), ((1,), 1, 0), ((1,), 0, 0), ((0,), 1, 0)]), True)

    def test_no_table_where_a_word_breaks(self):
        tuples = list(itertools.product([(0,), (1,)], range(2), range(2)))
        for many in range(9):
            for value in itertools.combinations(tuples, many):
                self.assertIs(is_kept_table(FLIP, RARE, RARE, value), False)

    def test_any_word(self):
        for value in ([(1,), (0,)], ((1,), (0,)), [(1,), (0,), (0,)], [(0,), (1,), (0,)]):
            self.assertIs(is_breaking_word(circuit=FLIP, ahead=RARE, behind=RARE, value=value), True)
        for value in (None, 5, True, "10", {}, [], (), [(1,)], [(1,), (1,)], [(1,), (1,), (0,)], [(1,), (1,), (1,), (0,)], [(0,), (0,)], [(1,), (False,)], [(True,), (0,)],
                      [[1], [0]], [(1,), (2,)], [(1,), ()], [(1,), None], {(1,): 1, (0,): 1}, object(), RARE):
            self.assertIs(is_breaking_word(FLIP, RARE, RARE, value), False)


class WeakestTest(Case):
    def test_just_the_words_whose_answers_fit(self):
        for parts, circuit, ahead, behind in some_maps(90):
            told = weakest(circuit, behind)
            self.assertEqual(told.least(), told)
            for word in some_words(len(parts[0])):
                self.assertIs(word in told, fits(behind, naive_answer(parts, word)[0]))
            self.assertIs(keeps(circuit, told, behind), True)
            self.assertIs(keeps(circuit, ahead, behind), lies_within(ahead, told))

    def test_tables(self):
        for parts, circuit, ahead, behind in some_maps(60):
            told, pattern = weakest_table(circuit, behind), weakest(circuit, behind)
            self.assertIs(is_weakest_table(circuit, behind, pattern, told), True)
            ours, theirs = pattern.goes(), behind.goes()

            def steps(here):
                for letter in ours[here[2]]:
                    said, state = naive_answer(parts, [letter], here[0])
                    yield state, theirs[here[1]][said[0]], ours[here[2]][letter]

            self.assertEqual(told, reached((circuit.first(), 0, 0), steps))
            # there is a table for a pattern exactly if it is alike
            for other in (ahead, pattern):
                for value in (told, [((state), twin, 0) for state, twin, _ in told]):
                    if is_weakest_table(circuit, behind, other, value):
                        self.assertTrue(fit_alike(other, pattern))

    def test_the_document(self):
        self.assertEqual(weakest(circuit=FLIP, behind=RARE), Pattern(1, [{(0,): 0, (1,): 1}, {(1,): 0}]))
        self.assertEqual(weakest_table(circuit=FLIP, behind=RARE), [((0,), 0, 0), ((1,), 1, 1)])
        self.unlike_lists(weakest_table(FLIP, RARE))

    def test_one_behind_the_other(self):
        circuits = [circuit for _, circuit in some_circuits(40)]
        found = 0
        for seed, (one, other) in enumerate(zip(circuits, circuits[1:] + circuits[7:])):
            if len(one.outputs()) == len(other.inputs()):
                found += 1
                behind = random_pattern(seed, len(other.outputs()), 3, 0.8)
                self.assertEqual(weakest(put_behind(one, other), behind), weakest(one, weakest(other, behind)))
        self.assertGreater(found, 3)

    def test_nothing_there(self):
        none, end = Pattern.any_of(0), Pattern(0, [{}])
        self.assertEqual([weakest(NOTHING, none), weakest(NOTHING, end), weakest_table(NOTHING, end)], [none, end, [((), 0, 0)]])
        silent = Circuit(["x"], [], [("q", 0, "x")], [])
        self.assertEqual([weakest(silent, end), weakest(silent, none)], [Pattern(1, [{}]), ANY])
        self.assertEqual(weakest(WAIT, Pattern(1, [{}])), Pattern(1, [{}]))

    def test_any_value(self):
        pattern = Pattern(1, [{(0,): 2, (1,): 1}, {(1,): 0}, {(0,): 0, (1,): 1}])
        good = [((0,), 0, 0), ((1,), 1, 1), ((0,), 0, 2)]
        for value in (good, tuple(good), good[::-1]):
            self.assertIs(is_weakest_table(circuit=FLIP, behind=RARE, pattern=pattern, value=value), True)
        wrong = [None, 5, True, "0", {}, {row: 1 for row in good}, [], (), object(), good[:1], good[1:], good[:2], good[::2], RARE]
        wrong += [good + [each] for each in (
            good[0], ((0,), 0, 1), ((1,), 1, 0), ((1,), 0, 1), ((0,), 1, 0), ((0,), 2, 0), ((0,), 0, 3), ((0,), -1, 0), ((2,), 0, 0),
            ((0,), 0), ((0,), 0, 0, 0), ((), 0, 0), (0, 0, 0), None, [(0,), 0, 0], ([0], 0, 0), "000", ())]
        wrong += [[((False,), 0, 0)] + good[1:], [((0,), False, 0)] + good[1:], [((0,), 0, False)] + good[1:],
                  [good[0], ((1,), True, 1), good[2]], [good[0], ((1,), 1, True), good[2]], [list(row) for row in good]]
        for value in wrong:
            self.assertIs(is_weakest_table(FLIP, RARE, pattern, value), False)
        # letters lead on in the pattern that do not behind, and the other way round
        for other in (ANY, Pattern(1, [{}]), Pattern(1, [{(0,): 0}]), RARE):
            for value in ([((0,), 0, 0)], [((0,), 0, 0), ((1,), 1, 0)], [((0,), 0, 0), ((1,), 1, 1)]):
                self.assertIs(is_weakest_table(FLIP, RARE, other, value), False)

    def test_no_table_for_another_pattern(self):
        for seed in range(12):
            pattern = random_pattern(seed, 1, 2, 0.7)
            tuples = list(itertools.product([(0,), (1,)], range(2), range(2)))
            found = [value for many in range(9) for value in itertools.combinations(tuples, many)
                     if is_weakest_table(FLIP, RARE, pattern, value)]
            self.assertIs(bool(found), fit_alike(pattern, weakest(FLIP, RARE)))

    def test_60_places_and_more(self):
        two = Circuit(["x", "y"], [("g", "xor", ["x", "y"])], [("q", 0, "x"), ("p", 0, "q")], ["g", "p"])
        self.assertEqual(machine_of(two).width, 2)
        self.assertEqual(len(weakest(counter(5, limit=20, outputs=1), Pattern.any_of(1))), 1)
        ring = Pattern(1, [{(0,): (at + 1) % 60} for at in range(60)])
        # the counter tells its highest bit: 1 from half way on, and there all is at an end
        self.assertEqual(len(weakest(counter(6), ring)), 33)
        for odd, call in ((59, None), (60, TooMany)):
            # x may be 1 only where the ring is at its odd place; the register tells it behind
            held = Circuit(["x"], [], [("q", 0, "x")], ["q"])
            goes = [{(0,): (at + 1) % odd} for at in range(odd)]
            goes[0] = {(0,): 1, (1,): 1}
            told = Pattern(1, goes)
            if call is None:
                self.assertEqual(len(weakest(held, told)), 60)
                self.assertEqual({place for _, _, place in weakest_table(held, told)}, set(range(60)))
            else:
                self.refuses(TooMany, ["places", 60], weakest, held, told)
                self.refuses(TooMany, ["places", 60], weakest_table, held, told)
                self.assertIs(is_weakest_table(held, told, ANY, None), False)


class WrongTest(Case):
    def test_widths_in_the_sequence_of_the_parameters(self):
        two = Pattern.any_of(2)
        for call in (keeps, kept_table, breaking_word, lambda *args: is_kept_table(*args, None),
                     lambda *args: is_breaking_word(*args, None)):
            self.refuses(OtherWidth, [2, 1], call, FLIP, two, Pattern.any_of(3))
            self.refuses(OtherWidth, [3, 1], call, FLIP, ANY, Pattern.any_of(3))
            self.refuses(OtherWidth, [4, 5], call, Circuit(list("abcde")), Pattern.any_of(4), Pattern.any_of(0))
            self.refuses(OtherWidth, [4, 5], call, Circuit([], [], [("q", 0, "q")], ["q"] * 5), Pattern.any_of(0), Pattern.any_of(4))
            self.refuses(TooMany, ["states", 64], call, counter(7, 2), two, ANY)
        for call in (weakest, weakest_table):
            self.refuses(OtherWidth, [2, 1], call, FLIP, two)
            self.refuses(OtherWidth, [1, 5], call, Circuit(list("abcde"), [], [], ["a"] * 5), ANY)
            self.refuses(TooMany, ["inputs", 4], call, counter(7, 5), ANY)
            self.refuses(TooMany, ["states", 64], call, counter(7), ANY)
        self.refuses(OtherWidth, [3, 1], is_weakest_table, FLIP, Pattern.any_of(3), two, None)
        self.refuses(OtherWidth, [2, 1], is_weakest_table, FLIP, ANY, two, None)
        self.refuses(TooMany, ["states", 64], is_weakest_table, counter(7), ANY, ANY, None)
        self.assertEqual(letters_of(0), [()])
