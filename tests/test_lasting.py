"""Point [53] and wirewords/lasting.py."""

import itertools

from tests.helping import Case
from tests.machining import RARE, fits, ring_of, some_patterns, words_of
from wirewords.lasting import (
    can_last, end_ranks, is_end_ranks, is_lasting, is_lasting_places, lasting_part, lasting_places,
)
from wirewords.patterns import Pattern

END = Pattern(1, [{}])
# place 1 leads on for ever, 2 and 3 to the end, 4 and 5 are not come to
MIXED = Pattern(1, [{(0,): 2, (1,): 1}, {(0,): 1, (1,): 2}, {(0,): 3}, {}, {(0,): 4}, {}])
DOWN = Pattern(1, [{(0,): 2, (1,): 1}, {(0,): 2}, {(1,): 3}, {}, {(0,): 4}, {(0,): 0}])


def lengths(pattern, start):
    """The greatest length of what leads on from a place; None if there is none, by counting far enough."""
    now = {start}
    for length in range(len(pattern) + 1):
        further = {goal for place in now for goal in pattern.leads(place).values()}
        if not further:
            return length
        now = further
    return None


def met(pattern):
    found = [0]
    for place in found:
        found.extend(goal for goal in dict.fromkeys(pattern.leads(place).values()) if goal not in found)
    return sorted(found)


class LastingTest(Case):
    def test_one_of_both(self):
        seen = {True: 0, False: 0}
        for pattern in some_patterns(150, places=6):
            places = met(pattern)
            ends = {place: lengths(pattern, place) for place in places}
            lasts = ends[0] is None
            seen[lasts] += 1
            self.assertIs(can_last(pattern), lasts)
            self.assertIs(is_lasting(pattern), all(pattern.leads(place) for place in places))
            told, ranks = lasting_places(pattern), end_ranks(pattern)
            self.assertEqual(told, [place for place in places if ends[place] is None] if lasts else None)
            self.assertEqual(ranks, None if lasts else ends)
            if lasts:
                self.assertIs(is_lasting_places(pattern, told), True)
            else:
                self.assertIs(is_end_ranks(pattern, ranks), True)
                self.assertEqual(list(ranks), places)
            part = lasting_part(pattern)
            self.assertIs(part is None, not lasts)
            if lasts:
                self.check_part(pattern, part, ends)
        self.assertGreater(min(seen.values()), 20)

    def check_part(self, pattern, part, ends):
        self.assertEqual(part.least(), part)
        self.assertIs(is_lasting(part), True)
        for word in words_of(pattern.width, {0: 8, 1: 5, 2: 3}[pattern.width]):
            self.assertIs(word in part, fits(pattern, word) and ends[pattern.place_of(word)] is None)

    def test_ordinary(self):
        self.assertEqual([can_last(pattern=MIXED), is_lasting(pattern=MIXED), lasting_places(pattern=MIXED)], [True, False, [0, 1]])
        self.assertEqual(lasting_part(pattern=MIXED), Pattern(1, [{(1,): 1}, {(0,): 1}]))
        self.assertEqual([end_ranks(MIXED), end_ranks(pattern=DOWN)], [None, {0: 3, 1: 2, 2: 1, 3: 0}])
        self.assertEqual([can_last(DOWN), lasting_places(DOWN), lasting_part(DOWN), is_lasting(DOWN)], [False, None, None, False])
        self.assertEqual([is_lasting(RARE), lasting_places(RARE), lasting_part(RARE)], [True, [0, 1], RARE])
        self.assertEqual([end_ranks(END), can_last(END), lasting_part(END), is_lasting(END)], [{0: 0}, False, None, False])
        # a place that is not come to does not matter
        self.assertIs(is_lasting(Pattern(1, [{(0,): 0}, {}])), True)
        self.assertEqual(lasting_places(Pattern(1, [{(0,): 0}, {(0,): 1}])), [0])

    def test_60_places(self):
        self.assertEqual(lasting_places(ring_of(2, 60)), list(range(60)))
        chain = Pattern.of_word(0, [()] * 59)
        self.assertEqual([end_ranks(chain), can_last(chain)], [{at: 59 - at for at in range(60)}, False])
        wide = Pattern(4, [{letter: at + 1 for letter in Pattern.any_of(4).leads(0)} for at in range(59)] + [{}])
        self.assertEqual(end_ranks(wide), end_ranks(chain))
        closed = Pattern(4, wide.goes()[:-1] + [{(0, 0, 0, 0): 59}])
        self.assertEqual([lasting_places(closed), lasting_part(closed)], [list(range(60)), closed])

    def test_what_is_told_is_new(self):
        for call, pattern in ((lasting_places, MIXED), (end_ranks, DOWN)):
            first = call(pattern)
            call(pattern).clear()
            self.assertEqual(call(pattern), first)


class LastingPlacesTest(Case):
    def test_any_value(self):
        for value in ([0, 1], (1, 0), [0, 1, 4], [4, 1, 0]):
            self.assertIs(is_lasting_places(pattern=MIXED, value=value), True)
        for value in (None, 5, 0, True, "01", {}, {0: 1, 1: 1}, [], (), [1], [4], [0], [0, 2], [0, 1, 2], [0, 1, 5], [0, 1, 0], [0, 1, 1],
                      [0, True], [False, 1], [0, 1, 6], [0, 1, -1], [0, 1, None], [0, 1, "4"], [0, 1, [4]], [(0,), (1,)], [[0, 1]],
                      object(), MIXED):
            self.assertIs(is_lasting_places(MIXED, value), False)

    def test_exactly_if_it_can_last(self):
        for pattern in some_patterns(60, places=4):
            places = range(len(pattern))
            found = [list(value) for many in places for value in itertools.combinations(places, many + 1)
                     if is_lasting_places(pattern, list(value))]
            self.assertIs(bool(found), can_last(pattern))
            for value in found:
                self.assertTrue(all(any(goal in value for goal in pattern.leads(place).values()) for place in value))


class EndRanksTest(Case):
    def test_any_value(self):
        good = {0: 3, 1: 2, 2: 1, 3: 0}
        for value in (good, {3: 7, 2: 8, 1: 9, 0: 10 ** 20}, {**good, 5: 4}):
            self.assertIs(is_end_ranks(pattern=DOWN, value=value), True)
        wrong = [None, 5, True, "0", [], (), {}, list(good), list(good.items()), object(), DOWN]
        wrong += [{at: good[at] for at in good if at != lost} for lost in good]
        wrong += [{**good, at: value} for at in good for value in (None, True, False, -1, "3", (0,), [3])]
        wrong += [{**good, 0: 2}, {**good, 1: 1}, {**good, 3: 1}, {**good, 2: 0}, {**good, 4: 4}, {**good, 5: 3}, {**good, 6: 0}]
        wrong += [{**good, at: 9} for at in (-1, None, "0", (0,), "x")]
        wrong += [{False: 3, 1: 2, 2: 1, 3: 0}, {0: 3, True: 2, 2: 1, 3: 0}]
        for value in wrong:
            self.assertIs(is_end_ranks(DOWN, value), False)
        self.assertIs(is_end_ranks(END, {0: 0}), True)
        self.assertIs(is_end_ranks(MIXED, {at: 9 - at for at in range(6)}), False)

    def test_exactly_if_it_cannot_last(self):
        for pattern in some_patterns(60, places=3):
            found = False
            for ranks in itertools.product([None, 0, 1, 2], repeat=len(pattern)):
                found = found or is_end_ranks(pattern, {at: rank for at, rank in enumerate(ranks) if rank is not None})
            self.assertIs(found, not can_last(pattern))
