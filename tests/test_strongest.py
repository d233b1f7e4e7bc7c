"""Point [55] as to the strongest pattern behind, wirewords/strongest.py."""

import itertools

from tests.helping import Case
from tests.machining import (
    FLIP, NOTHING, RARE, WAIT, counter, fits, naive_answer, random_pattern, reached, ring_of, some_circuits, words_of,
)
from wirewords.circuits import Circuit
from wirewords.errors import OtherWidth, TooMany
from wirewords.made import behind as put_behind
from wirewords.maps import keeps, weakest
from wirewords.patterns import Pattern, fit_alike, lies_within
from wirewords.strongest import is_strongest_table, strongest, strongest_table

ANY = Pattern.any_of(1)
HELD = Circuit(["x"], [], [("q", 0, "x")], ["q"])
FIRST = ((0,), 0)


def some_maps(many):
    for seed, (parts, circuit) in enumerate(some_circuits(many)):
        yield parts, circuit, random_pattern(seed, len(parts[0]), 1 + seed % 3, (0.3, 0.5, 0.8)[seed % 3])


def naive_lot(parts, ahead, lot, out):
    """What comes of a lot behind an output."""
    found = set()
    for state, place in lot:
        for letter, goal in ahead.leads(place).items():
            said, there = naive_answer(parts, [letter], state)
            if said[0] == out:
                found.add((there, goal))
    return tuple(sorted(found))


class StrongestTest(Case):
    def test_just_the_answers_of_words_that_fit(self):
        for parts, circuit, ahead in some_maps(90):
            told = strongest(circuit, ahead)
            self.assertEqual(told.least(), told)
            most = {0: 12, 1: 6, 2: 3}[len(parts[0])]
            answers = {tuple(naive_answer(parts, word)[0]) for word in words_of(len(parts[0]), most) if fits(ahead, word)}
            for word in words_of(len(parts[3]), {0: 12, 1: 6, 2: 3, 3: 2}[len(parts[3])]):
                if len(word) <= most:
                    self.assertIs(word in told, tuple(word) in answers)
            self.assertTrue(all(list(each) in told for each in answers))

    def test_keeping_by_both_and_by_a_table(self):
        seen = {True: 0, False: 0}
        for seed, (parts, circuit, ahead) in enumerate(some_maps(90)):
            behind = random_pattern(seed + 70, len(parts[3]), 1 + seed % 4, 0.5)
            if seed % 2:
                behind = behind | strongest(circuit, ahead)
            kept = keeps(circuit, ahead, behind)
            seen[kept] += 1
            self.assertIs(lies_within(strongest(circuit, ahead), behind), kept)
            self.assertIs(lies_within(ahead, weakest(circuit, behind)), kept)
            self.assertIs(keeps(circuit, ahead, strongest(circuit, ahead)), True)
        self.assertGreater(min(seen.values()), 10)

    def test_one_behind_the_other(self):
        circuits = [circuit for _, circuit in some_circuits(60)]
        found = 0
        for seed, (one, other) in enumerate(zip(circuits, circuits[1:] + circuits[7:])):
            if len(one.outputs()) == len(other.inputs()):
                found += 1
                ahead = random_pattern(seed, len(one.inputs()), 3, 0.6)
                self.assertEqual(strongest(put_behind(one, other), ahead), strongest(other, strongest(one, ahead)))
        self.assertGreater(found, 5)

    def test_the_document(self):
        told = Pattern(1, [{(0,): 0, (1,): 1}, {(1,): 2}, {(0,): 3, (1,): 2}, {(0,): 0}])
        self.assertEqual(strongest(circuit=FLIP, ahead=RARE), told)
        zero, one = (((0,), 0),), (((1,), 1),)
        self.assertEqual(strongest_table(circuit=FLIP, ahead=RARE),
                         [(zero, 0), ((((0,), 1),), 3), ((((1,), 0),), 2), (one, 1)])
        self.unlike_lists(strongest_table(FLIP, RARE))

    def test_nothing_there(self):
        none, end = Pattern.any_of(0), Pattern(0, [{}])
        self.assertEqual([strongest(NOTHING, none), strongest(NOTHING, end)], [none, end])
        self.assertEqual(strongest_table(NOTHING, end), [((((), 0),), 0)])
        silent = Circuit(["x"], [], [("q", 0, "x")], [])
        self.assertEqual([strongest(silent, ANY), strongest(silent, Pattern(1, [{}]))], [none, end])
        self.assertEqual(strongest(WAIT, Pattern(1, [{}])), Pattern(1, [{}]))

    def test_tables(self):
        for parts, circuit, ahead in some_maps(60):
            pattern, told = strongest(circuit, ahead), strongest_table(circuit, ahead)
            goes = pattern.goes()
            start = (((circuit.first(), 0),), 0)
            self.assertEqual(told, reached(start, lambda here: [
                (naive_lot(parts, ahead, here[0], out), goal) for out, goal in goes[here[1]].items()]))
            self.assertIs(is_strongest_table(circuit, ahead, pattern, told), True)
            for other in (random_pattern(len(told), pattern.width, 2), Pattern.any_of(pattern.width), pattern):
                for value in (told, [(lot, 0) for lot, _ in told]):
                    if is_strongest_table(circuit, ahead, other, value):
                        self.assertTrue(fit_alike(other, pattern))


class LimitsTest(Case):
    def test_200_lots_and_one_more(self):
        circuit = counter(5, limit=25, outputs=0)
        ring = ring_of(1, 8)
        tail = Pattern(1, [{(0,): at + 1} for at in range(8)] + [{(0,): 1}])
        self.assertEqual(strongest(circuit, ring), Pattern.any_of(0))
        self.assertEqual(len(strongest_table(circuit, ring)), 200)
        for call in (strongest, strongest_table):
            self.refuses(TooMany, ["lots", 200], call, circuit, tail)
            # the lots come ahead of the places
            self.refuses(TooMany, ["lots", 200], call, counter(6, outputs=4), ring_of(1, 59))
        # a table for another pattern has no such limit
        self.assertIs(is_strongest_table(circuit, tail, Pattern.any_of(0), None), False)
        lots = [((((tuple(int(sign) for sign in format(at % 25, "05b"))), 0 if at == 0 else 1 + (at - 1) % 8),), 0)
                for at in range(201)]
        self.assertIs(is_strongest_table(circuit, tail, Pattern.any_of(0), lots), True)

    def test_60_places_and_one_more(self):
        wire = Circuit(["x"], [], [], ["x"])
        self.assertEqual(strongest(wire, ring_of(1, 60)), ring_of(1, 60))
        self.assertEqual(len(strongest_table(wire, ring_of(1, 60))), 60)
        # what is held comes a step later, behind a 0, so that there is a place more
        for many, told in ((59, 60), (60, None)):
            ahead = Pattern(1, [{(1,): 1}, {(0,): 2, (1,): 2}] + [{(0,): at} for at in range(3, many)] + [{(0,): 1}])
            if told is not None:
                self.assertEqual([len(strongest(HELD, ahead)), len(ahead)], [60, 59])
                self.assertEqual({place for _, place in strongest_table(HELD, ahead)}, set(range(60)))
            else:
                for call in (strongest, strongest_table):
                    self.refuses(TooMany, ["places", 60], call, HELD, ahead)

    def test_widths_and_circuits(self):
        two = Pattern.any_of(2)
        for call in (strongest, strongest_table):
            self.refuses(OtherWidth, [2, 1], call, FLIP, two)
            self.refuses(OtherWidth, [4, 5], call, Circuit(list("abcde")), Pattern.any_of(4))
            self.refuses(TooMany, ["outputs", 4], call, counter(7, 1, 5), ANY)
            self.refuses(TooMany, ["states", 64], call, counter(7), ANY)
        self.refuses(OtherWidth, [3, 1], is_strongest_table, FLIP, Pattern.any_of(3), two, None)
        self.refuses(OtherWidth, [2, 1], is_strongest_table, FLIP, ANY, two, None)
        self.refuses(OtherWidth, [4, 5], is_strongest_table, counter(7, 1, 5), ANY, Pattern.any_of(4), None)
        self.refuses(TooMany, ["states", 64], is_strongest_table, counter(7), ANY, ANY, None)
        four = Circuit(list("abcd"), [], [], list("abcd"))
        self.assertEqual(strongest(four, Pattern.any_of(4)), Pattern.any_of(4))
        self.assertEqual(len(strongest_table(counter(6, 4, 0), Pattern.any_of(4))), 64)


class IsTableTest(Case):
    def test_any_value(self):
        pattern = strongest(FLIP, RARE)
        good = strongest_table(FLIP, RARE)
        for value in (good, tuple(good), good[::-1]):
            self.assertIs(is_strongest_table(circuit=FLIP, ahead=RARE, pattern=pattern, value=value), True)
        wrong = [None, 5, True, "0", {}, {row: 1 for row in good}, [], (), object(), RARE]
        wrong += [good[:at] + good[at + 1:] for at in range(4)]
        first = good[0][0]
        wrong += [good + [each] for each in (
            good[0], (first, 1), (first, 4), (first, -1), (first, None), (first,), (first, 0, 0), [first, 0], None, 5, ((), 4),
            ((((0,), 0), ((0,), 0)), 0), ((((1,), 0), ((0,), 0)), 0), ((((0,), 2),), 0), ((((2,), 0),), 0), (((0,), 0), 0),
            ([((0,), 0)], 0), (([(0,), 0],), 0), ((((0,), 0, 0),), 0), ((((0,),),), 0), (((((0,), 0),),), 0), ((None,), 0),
            ((((), 0),), 0), ((((0, 0), 0),), 0))]
        wrong += [[(first, False)] + good[1:], [((((False,), 0),), 0)] + good[1:], [((((0,), False),), 0)] + good[1:],
                  good[:3] + [((((1,), 1),), True)], good[:3] + [((((1,), True),), 1)]]
        for value in wrong:
            self.assertIs(is_strongest_table(FLIP, RARE, pattern, value), False)

    def test_lots_of_several(self):
        # both states may be there, whatever was told
        mute = Circuit(["x"], [("g", "low", [])], [("q", 0, "x")], ["g"])
        told = strongest_table(mute, ANY)
        both = ((FIRST, ((1,), 0)), 0)
        self.assertEqual([told, strongest(mute, ANY)], [[((FIRST,), 0), both], Pattern(1, [{(0,): 0}])])
        pattern = Pattern(1, [{(0,): 1}, {(0,): 0}])
        self.assertIs(is_strongest_table(mute, ANY, pattern, [((FIRST,), 0), (both[0], 1), (both[0], 0)]), True)
        self.assertIs(is_strongest_table(mute, ANY, pattern, [((FIRST,), 0), (both[0], 1)]), False)
        self.assertIs(is_strongest_table(mute, ANY, Pattern.any_of(1), [((FIRST,), 0), both]), False)
        self.assertIs(is_strongest_table(mute, ANY, Pattern(1, [{}]), [((FIRST,), 0)]), False)
        # an empty lot says nothing, so nothing may lead on there
        self.assertIs(is_strongest_table(mute, ANY, Pattern(1, [{(0,): 0}, {}]), [((FIRST,), 0), both, ((), 1)]), True)
        self.assertIs(is_strongest_table(mute, ANY, Pattern(1, [{(0,): 0}, {}]), [((FIRST,), 0), both, ((), 0)]), False)

    def test_no_table_for_another_pattern(self):
        lots = [tuple(lot) for many in (1, 2) for lot in itertools.combinations([FIRST, ((1,), 0)], many)]
        for seed in range(12):
            pattern = random_pattern(seed, 1, 2, 0.6)
            tuples = list(itertools.product(lots, range(2)))
            found = [value for many in range(7) for value in itertools.combinations(tuples, many)
                     if is_strongest_table(HELD, ANY, pattern, value)]
            self.assertIs(bool(found), fit_alike(pattern, strongest(HELD, ANY)))
