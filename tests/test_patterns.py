"""Points [51] and [52], wirewords/patterns.py."""

import itertools
import random

from tests.helping import ODD, Case, letters_of
from tests.machining import RARE, fits, naive_place, random_pattern, reached, ring_of, some_patterns, words_of
from wirewords.errors import InvalidGoes, InvalidPattern, InvalidPlace, InvalidWidth, InvalidWord, OtherWidth, TooMany
from wirewords.patterns import (
    Pattern, fit_alike, is_within_table, lies_within, within_table, word_alone,
)

END = Pattern(1, [{}])
ONES = Pattern(1, [{(1,): 0}])


def long(pattern):
    """All words up to a length that tells patterns of at most six places apart often enough."""
    return list(words_of(pattern.width, {0: 20, 1: 7, 2: 4}[pattern.width]))


class PatternTest(Case):
    def test_words_that_fit(self):
        for pattern in some_patterns(40):
            for word in long(pattern):
                place = naive_place(pattern, word)
                self.assertEqual(pattern.place_of(word), place)
                self.assertIs(word in pattern, place is not None)
                self.assertIs(tuple(word) in pattern, place is not None)

    def test_parts(self):
        made = Pattern(goes=({(1,): 1, (0,): 0}, {(0,): 0}), width=1)
        self.assertEqual(made, RARE)
        self.assertEqual(repr(made), "Pattern(1, [{(0,): 0, (1,): 1}, {(0,): 0}])")
        self.assertEqual([made.width, len(made), made.goes(), made.leads(place=1)],
                         [1, 2, [{(0,): 0, (1,): 1}, {(0,): 0}], {(0,): 0}])
        self.assertEqual(list(made.goes()[0]), [(0,), (1,)])
        self.assertEqual(list(made.leads(0)), [(0,), (1,)])
        self.assertEqual([made.place_of(word=[(1,), (0,), (1,)]), made.place_of([(1,), (1,)]), made.place_of([])], [1, None, 0])
        self.assertEqual(eval(repr(made), {"Pattern": Pattern}), made)

    def test_equal(self):
        self.assertTrue(RARE == Pattern(1, RARE.goes()))
        for other in (END, ONES, Pattern(1, RARE.goes() + [{}]), None, 5, RARE.goes(), repr(RARE), Pattern(1, RARE.goes()[::-1])):
            self.assertFalse(RARE == other)
            self.assertTrue(RARE != other)
        self.assertFalse(Pattern(1, [{}]) == Pattern(2, [{}]))

    def test_what_is_passed_stays_and_what_is_told_is_new(self):
        goes = [{(0,): 0, (1,): 1}, {(0,): 0}]
        made = Pattern(1, goes)
        goes[0].clear()
        goes.pop()
        self.assertEqual(made, RARE)
        self.unlike_lists(made.goes())
        made.goes()[0].clear()
        made.goes().clear()
        made.leads(0).clear()
        self.assertEqual(made, RARE)

    def test_any_value_in_it(self):
        for value in ODD + [[(2,)], [(True,)], [(False,)], [[0]], [(0, 0)], [()], {(0,): 1}, "0", RARE, [(1,), (1,)], [(0,), None]]:
            self.assertIs(value in RARE, value in ([], ()) and isinstance(value, (list, tuple)))
        self.assertIs(((0,),) in RARE, True)
        # what is no word does not fit, though all letters lead on
        for value in ([(0,)], [0], [()], "00", [(0, 0), (True, 0)]):
            self.assertIs(value in Pattern.any_of(2), False)

    def test_widths_0_and_4(self):
        none = Pattern(0, [{(): 1}, {}])
        self.assertEqual([[()] in none, [(), ()] in none, none.place_of([()])], [True, False, 1])
        four = Pattern(4, [{letter: 0 for letter in letters_of(4)[1:]}])
        self.assertEqual([letters_of(4)[1:] in four, [(0,) * 4] in four, len(four.leads(0))], [True, False, 15])
        for value in (5, -1, True, False, None, "1", (1,), [], 10 ** 20):
            self.refuses_value(InvalidWidth, value, Pattern, value, None)
            self.refuses_value(InvalidWidth, value, Pattern.any_of, value)
            self.refuses_value(InvalidWidth, value, Pattern.of_word, value, None)

    def test_places(self):
        self.assertEqual(len(Pattern(0, [{(): 59}] * 60)), 60)
        self.refuses(TooMany, ["places", 60], Pattern, 0, [{}] * 61)
        for value in (2, -1, True, False, None, "0", (0,), [], object()):
            self.refuses_value(InvalidPlace, value, RARE.leads, value)

    def test_wrong_goes(self):
        for value in ODD:
            if not isinstance(value, (list, tuple)) or not value:
                self.refuses(InvalidGoes, [None], Pattern, 1, value)
        for wrong in (None, True, 1, "", "x", (), [], (0,), [((0,), 0)], {"x": 1}, {0: 0}, {(): 0}, {(0, 0): 0}, {(2,): 0}, {(True,): 0},
                      {(False,): 0}, {(0,): 2}, {(0,): -1}, {(0,): True}, {(0,): False}, {(0,): None}, {(0,): "0"}, {(0,): (0,)},
                      {(0,): [0]}, {(0,): 0, (1,): 2}, {None: 0}, object()):
            self.refuses(InvalidGoes, [1], Pattern, 1, [{}, wrong])
            self.refuses(InvalidGoes, [0], Pattern, 1, (wrong, wrong))
        self.refuses(InvalidGoes, [61], Pattern, 0, [{}] * 61 + [None])

    def test_wrong_words(self):
        for value in (None, 5, "0", {(0,): 1}, [0], [()], [(0, 0)], [(2,)], [(True,)], [[0]], [(1,), (1,), None], object()):
            self.refuses_value(InvalidWord, value, RARE.place_of, value)
            self.refuses_value(InvalidWord, value, Pattern.of_word, 1, value)


class LeastTest(Case):
    def naive_lets(self, pattern):
        """What leads on from each place, by all words up to a length; for places to be told apart."""
        goes = pattern.goes()
        told = []
        for start in range(len(goes)):
            lets = []
            for word in long(pattern):
                place = start
                for letter in word:
                    place = None if place is None else goes[place].get(letter)
                lets.append(place is not None)
            told.append(tuple(lets))
        return told

    def test_alike_with_the_fewest_places(self):
        for pattern in some_patterns(60):
            small = pattern.least()
            for word in long(pattern):
                self.assertEqual(word in small, word in pattern)
            lets = self.naive_lets(pattern)
            met = [0]
            for here in met:
                for letter in sorted(pattern.leads(here)):
                    goal = pattern.leads(here)[letter]
                    if lets[goal] not in [lets[each] for each in met]:
                        met.append(goal)
            kinds = [lets[here] for here in met]
            goes = [{letter: kinds.index(lets[goal]) for letter, goal in pattern.leads(here).items()} for here in met]
            self.assertEqual(small, Pattern(pattern.width, goes))
            self.assertEqual(small.least(), small)

    def test_numbers_as_they_are_met(self):
        made = Pattern(1, [{(0,): 2, (1,): 3}, {(0,): 1}, {(1,): 1}, {(0,): 3, (1,): 4}, {(0,): 1}])
        self.assertEqual(made.least(), Pattern(1, [{(0,): 1, (1,): 2}, {(1,): 3}, {(0,): 2, (1,): 3}, {(0,): 3}]))

    def test_edges(self):
        self.assertEqual([END.least(), Pattern(1, [{}, {(0,): 0}]).least()], [END, END])
        same = Pattern(4, [{letter: (at * 7 + k) % 60 for k, letter in enumerate(letters_of(4))} for at in range(60)])
        self.assertEqual(same.least(), Pattern.any_of(4))
        self.assertEqual(ring_of(1, 60).least(), ring_of(1, 60))
        self.assertEqual(RARE, Pattern(1, [{(0,): 0, (1,): 1}, {(0,): 0}]))


class MadeTest(Case):
    def test_any_of(self):
        for width in range(5):
            made = Pattern.any_of(width=width)
            self.assertEqual(made, Pattern(width, [{letter: 0 for letter in letters_of(width)}]))
            self.assertEqual(made.least(), made)

    def test_of_word(self):
        for width in range(3):
            chance = random.Random(width)
            for length in (0, 1, 2, 5, 59):
                word = [chance.choice(letters_of(width)) for _ in range(length)]
                made = Pattern.of_word(width=width, word=word)
                self.assertEqual(made, Pattern.of_word(width, tuple(word)))
                self.assertEqual([made.least(), len(made), made.place_of(word)], [made, length + 1, length])
                for each in words_of(width, 3):
                    self.assertIs(each in made, each == word[:len(each)])
            self.refuses(TooMany, ["places", 60], Pattern.of_word, width, [(0,) * width] * 60)
        wrong = [(0,)] * 60 + [0]
        self.refuses_value(InvalidWord, wrong, Pattern.of_word, 1, wrong)
        self.assertEqual(Pattern.of_word(1, []), END)


class BothEitherTest(Case):
    def test_and_or(self):
        for seed in range(40):
            one, other = random_pattern(seed, seed % 3, 1 + seed % 4), random_pattern(-seed - 1, seed % 3, 1 + seed % 5, 0.5)
            kept = (one.goes(), other.goes())
            both, either = one & other, one | other
            for word in long(one):
                self.assertIs(word in both, fits(one, word) and fits(other, word))
                self.assertIs(word in either, fits(one, word) or fits(other, word))
            for made in (both, either):
                self.assertEqual(made.least(), made)
                self.assertIs(type(made), Pattern)
            self.assertEqual([other & one, other | one], [both, either])
            self.assertEqual((one.goes(), other.goes()), kept)

    def test_laws(self):
        for pattern in some_patterns(20):
            any_word, end = Pattern.any_of(pattern.width), Pattern(pattern.width, [{}])
            self.assertEqual([pattern & any_word, pattern | any_word, pattern & end, pattern | end],
                             [pattern.least(), any_word, end, pattern.least()])
            self.assertEqual([pattern & pattern, pattern | pattern], [pattern.least(), pattern.least()])

    def test_wrong_ones(self):
        for value in ODD + [RARE.goes(), "Pattern", 0]:
            for call in (lambda: RARE & value, lambda: RARE | value):
                self.refuses_value(InvalidPattern, value, call)
        for width in (0, 2, 4):
            for call in (lambda: RARE & Pattern.any_of(width), lambda: RARE | Pattern.any_of(width)):
                self.refuses(OtherWidth, [1, width], call)

    def test_60_places_and_more(self):
        made = ring_of(1, 6) & ring_of(1, 10)
        self.assertEqual(len(made), 30)
        made = ring_of(1, 5) & ring_of(1, 12)
        self.assertEqual(len(made), 60)
        for one, other in ((7, 9), (59, 60), (8, 9)):
            self.refuses(TooMany, ["places", 60], lambda: ring_of(1, one, 1) | ring_of(1, other))
        # two words of unlike letters have just their beginning and their end in common
        self.assertEqual(len(again(0, 30) | again(1, 30)), 60)
        self.refuses(TooMany, ["places", 60], lambda: again(0, 30) | again(1, 31))
        # many pairs, but few places of the least one
        one, other = [Pattern(1, [{(bit,): (at + 1 + bit) % many for bit in (0, 1)} for at in range(many)]) for many in (59, 60)]
        self.assertEqual([one & other, one | other], [Pattern.any_of(1)] * 2)
        self.refuses(TooMany, ["places", 60], lambda: ring_of(2, 59) & ring_of(2, 60))


def again(bit, length):
    """The pattern that lets one word of equal letters."""
    return Pattern.of_word(1, [(bit,)] * length)


class WithinTest(Case):
    def test_one_of_both(self):
        seen = {True: 0, False: 0}
        for seed in range(120):
            one, other = random_pattern(seed, seed % 3, 1 + seed % 4, 0.5), random_pattern(-seed - 1, seed % 3, 1 + seed % 4, 0.7)
            if seed % 2:
                one = one & other
            alone = [word for word in long(one) if fits(one, word) and not fits(other, word)]
            told, word = within_table(one, other), word_alone(one, other)
            self.assertEqual(word, alone[0] if alone else None)
            self.assertIs(told is None, bool(alone))
            self.assertIs(lies_within(one, other), not alone)
            self.assertIs(fit_alike(one, other), lies_within(one, other) and lies_within(other, one))
            self.assertIs(fit_alike(one, other), one.least() == other.least())
            seen[not alone] += 1
            if told is not None:
                self.assertIs(is_within_table(one, other, told), True)
                ours, theirs = one.goes(), other.goes()
                self.assertEqual(told, reached((0, 0), lambda here: [
                    (ours[here[0]][letter], theirs[here[1]][letter]) for letter in ours[here[0]]]))
        self.assertGreater(min(seen.values()), 20)

    def test_ordinary(self):
        any_word = Pattern.any_of(1)
        self.assertEqual([lies_within(one=RARE, other=any_word), lies_within(any_word, RARE)], [True, False])
        self.assertEqual([within_table(one=RARE, other=any_word), within_table(any_word, RARE)], [[(0, 0), (1, 0)], None])
        self.assertEqual([word_alone(one=any_word, other=RARE), word_alone(RARE, any_word)], [[(1,), (1,)], None])
        self.assertEqual([within_table(END, END), word_alone(ONES, END)], [[(0, 0)], [(1,)]])
        self.assertIs(fit_alike(one=RARE, other=Pattern(1, [{(1,): 1, (0,): 2}, {(0,): 2}, {(1,): 1, (0,): 0}])), True)
        self.unlike_lists(within_table(RARE, any_word))

    def test_long_words_alone(self):
        one, other = ring_of(1, 59), ring_of(1, 60)
        word = word_alone(one, other)
        self.assertEqual(word, [(0,)] * 59 + [(1,)])
        self.assertEqual(len(word_alone(Pattern(1, [{(0,): 0}]) | one, other)), 60)

    def test_any_value(self):
        other = Pattern(1, [{(0,): 0, (1,): 1}, {(0,): 0, (1,): 2}, {}])
        good = [(0, 0), (1, 1)]
        for value in (good, tuple(good), good[::-1]):
            self.assertIs(is_within_table(one=RARE, other=other, value=value), True)
        wrong = [None, 5, True, "0", {}, {(0, 0): 1, (1, 1): 1}, [], (), object(), good[:1], good[1:], RARE]
        wrong += [good + [each] for each in (
            (0, 0), (0, 2), (1, 2), (2, 0), (0, 3), (-1, 0), (0,), (1, 0, 0), None, [1, 0], "10", 1, ())]
        wrong += [[(False, 0), (1, 1)], [(0, False), (1, 1)], [(0, 0), (True, 1)], [(0, 0), (1, True)], [[0, 0], [1, 1]]]
        for value in wrong:
            self.assertIs(is_within_table(RARE, other, value), False)
        # tuples that are not come to may stand in it
        self.assertIs(is_within_table(RARE, other, good + [(0, 1), (1, 0)]), False)
        self.assertIs(is_within_table(RARE, Pattern.any_of(1), [(0, 0), (1, 0)]), True)
        self.assertIs(is_within_table(END, END, [(0, 0)]), True)
        places = Pattern(1, [{}, {(0,): 1}])
        self.assertIs(is_within_table(places, places, [(0, 0), (1, 1)]), True)
        self.assertIs(is_within_table(places, places, [(0, 0), (1, 0)]), False)

    def test_no_table_where_a_word_is_alone(self):
        for seed in range(30):
            one, other = random_pattern(seed, 1, 2, 0.7), random_pattern(seed + 100, 1, 3, 0.6)
            if word_alone(one, other) is not None:
                tuples = list(itertools.product(range(2), range(3)))
                for many in range(7):
                    for value in itertools.combinations(tuples, many):
                        self.assertIs(is_within_table(one, other, list(value)), False)

    def test_widths(self):
        for call in (lies_within, fit_alike, within_table, word_alone, lambda one, other: is_within_table(one, other, None)):
            self.refuses(OtherWidth, [1, 2], call, RARE, Pattern.any_of(2))
            self.refuses(OtherWidth, [2, 1], call, Pattern.any_of(2), RARE)
