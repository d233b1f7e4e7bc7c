"""Points [81] and [82], wirewords/resets.py; of point [4] "Together or apart", its first half."""

import itertools
import random

from tests.helping import ODD, Case, letters_of
from tests.machining import LATE, naive_run, some_machines, words_of
from tests.papers import is_int, is_listed, is_said, some_variants, variants
from wirewords.errors import InvalidState, InvalidWord, TooMany
from wirewords.machines import Machine
from wirewords.refusals import InvalidAnswer, InvalidLot
from wirewords.resets import (
    any_homing, any_reset, apart, began, homing, is_apart, is_homing, is_reset, led, meeting, reset, where,
)

FLIP = Machine(1, 1, [[(0, (0,)), (1, (0,))], [(1, (0,)), (0, (1,))]])
ONE = Machine(0, 0, [[(0, ())]])
WRONG_LOTS = [None, True, 0, "01", [], (), {0: 1}, [1, 0], [0, 0], [0, 2], [-1], [True], [0, None], [[0]], ["0"], {0, 1}]


def cerny(states):
    """The machine of which the shortest word that resets it has (states - 1) ** 2 letters."""
    rows = []
    for at in range(states):
        rows.append([((at + 1) % states, (0,)), (1 if at == 0 else at, (0,))])
    return Machine(1, 1, rows)


def ladder(states):
    """A machine that goes on by one letter, to its last state, and begins again by the other one."""
    return Machine(1, 1, [[(min(at + 1, states - 1), (at % 2,)), (0, (0,))] for at in range(states)])


SIXTEEN, MORE = ladder(16), ladder(17)
CALLS = (
    lambda machine: led(machine, [0], []), lambda machine: meeting(machine, 0, 1), apart, lambda machine: is_apart(machine, None),
    reset, any_reset, lambda machine: is_reset(machine, None), homing, any_homing, lambda machine: is_homing(machine, None),
    lambda machine: where(machine, [], []), lambda machine: began(machine, [], []),
)


def count_lots(machine):
    """How many lots words lead all states to."""
    met = [frozenset(range(len(machine)))]
    seen = set(met)
    for here in met:
        for letter in range(len(machine.rows()[0])):
            there = frozenset(machine.rows()[state][letter][0] for state in here)
            if there not in seen:
                seen.add(there)
                met.append(there)
    return len(met)


def ends(machine, lot, word):
    return sorted({naive_run(machine, word, state)[1] for state in lot})


def naive_pairs(machine):
    """The pairs that no word leads to one, by all words that bring something new."""
    found = []
    for pair in itertools.combinations(range(len(machine)), 2):
        met = [pair]
        for one, other in met:
            for (goal, _), (twin, _) in zip(machine.rows()[one], machine.rows()[other]):
                there = tuple(sorted((goal, twin)))
                if there not in met:
                    met.append(there)
        if all(one != other for one, other in met):
            found.append(pair)
    return found


def naive_is_apart(machine, value):
    if not is_listed(value) or not value:
        return False
    for pair in value:
        if type(pair) is not tuple or len(pair) != 2 or not all(is_int(state, 0, len(machine)) for state in pair) or pair[0] >= pair[1]:
            return False
    if len(set(value)) < len(value):
        return False
    for one, other in value:
        for (goal, _), (twin, _) in zip(machine.rows()[one], machine.rows()[other]):
            if tuple(sorted((goal, twin))) not in value:
                return False
    return True


def alike_states(machine, most=6):
    """The classes of states, by their answers to all words of a length."""
    words = [word for word in words_of(machine.width, most) if len(word) == most]
    return [tuple(tuple(naive_run(machine, word, state)[0]) for word in words) for state in range(len(machine))]


def naive_homing(machine, word, classes):
    met = {}
    for state in range(len(machine)):
        told, end = naive_run(machine, word, state)
        met.setdefault(tuple(told), set()).add(classes[end])
    return all(len(found) == 1 for found in met.values())


class LedTest(Case):
    def test_lots_and_words(self):
        for machine in some_machines(30):
            for lot in itertools.chain(*[itertools.combinations(range(len(machine)), k) for k in range(1, len(machine) + 1)]):
                for word in words_of(machine.width, 2):
                    right = ends(machine, lot, word)
                    self.assertEqual([led(machine, lot, word), led(machine, list(lot), tuple(word))], [right, right])
                    self.assertIs(type(led(machine, lot, word)), list)
        self.assertEqual(led(machine=LATE, lot=[0, 1], word=[(1,)]), [1])
        self.assertEqual(led(FLIP, (0, 1), []), [0, 1])

    def test_wrong_ones(self):
        for value in WRONG_LOTS:
            self.refuses_value(InvalidLot, value, led, FLIP, value, None)
            self.refuses_value(InvalidLot, value, led, word=None, lot=value, machine=FLIP)
        for value in (None, 1, "1", [1], [(2,)], [(True,)], [()], [(0, 0)], [[0]], {(0,): 1}, (0,)):
            self.refuses_value(InvalidWord, value, led, FLIP, [0, 1], value)
            self.refuses_value(InvalidWord, value, where, FLIP, value, None)
            self.refuses_value(InvalidWord, value, began, FLIP, value, None)
        # errors of the parameters come ahead of too many states
        self.refuses(InvalidLot, [[17]], led, MORE, [17], None)
        self.refuses(InvalidWord, [None], led, MORE, [16], None)
        self.refuses(TooMany, ["states", 16], led, MORE, [16], [])

    def test_16_states_and_one_more(self):
        for call in CALLS:
            self.refuses(TooMany, ["states", 16], call, MORE)
            call(SIXTEEN)


class MeetingTest(Case):
    def test_against_all_words(self):
        seen = {True: 0, False: 0}
        for machine in some_machines(40, 4):
            for one, other in itertools.product(range(len(machine)), repeat=2):
                words = [word for word in words_of(machine.width, 5) if len(ends(machine, [one, other], word)) == 1]
                right = min(words, key=lambda word: (len(word), word), default=None)
                told = meeting(machine, one, other)
                if right is not None or told is None:
                    self.assertEqual(told, right)
                else:
                    self.assertEqual([len(told) > 5, len(ends(machine, [one, other], told))], [True, 1])
                self.assertIs(told is None, tuple(sorted((one, other))) in naive_pairs(machine))
                seen[told is None] += 1
        self.assertGreater(min(seen.values()), 40)

    def test_ordinary_and_wrong_ones(self):
        self.assertEqual([meeting(machine=LATE, state=0, other=1), meeting(LATE, 1, 1), meeting(FLIP, 0, 1), meeting(ONE, 0, 0)],
                         [[(0,)], [], None, []])
        for value in (None, True, False, -1, 2, "0", (0,), [0], {}):
            self.refuses_value(InvalidState, value, meeting, FLIP, value, None)
            self.refuses_value(InvalidState, value, meeting, FLIP, 1, value)
        self.refuses(InvalidState, [17], meeting, MORE, 16, 17)


class ApartTest(Case):
    def test_one_of_both(self):
        seen = {True: 0, False: 0}
        for machine in some_machines(80, 6):
            told, word = apart(machine), any_reset(machine)
            self.assertEqual(told or [], naive_pairs(machine))
            self.assertIs(told is None, word is not None)
            seen[told is None] += 1
            if told is None:
                self.assertIs(is_reset(machine, word), True)
                self.assertEqual(len(ends(machine, range(len(machine)), word)), 1)
            else:
                self.assertEqual([reset(machine), is_apart(machine, told), naive_is_apart(machine, told)], [None, True, True])
        self.assertGreater(min(seen.values()), 10)

    def test_any_value(self):
        seen = {True: 0, False: 0}
        for machine in some_machines(40, 5):
            told = apart(machine) or [(0, 1)]
            for value in [told] + some_variants(told, 60) + ODD:
                right = naive_is_apart(machine, value)
                self.assertIs(is_apart(machine, value), right)
                seen[right] += 1
        self.assertGreater(min(seen.values()), 20)
        # fewer pairs are enough where letters lead to these alone
        two = Machine(1, 0, [[(1, ()), (0, ())], [(0, ()), (1, ())], [(2, ()), (0, ())]])
        self.assertEqual(apart(two), naive_pairs(two))
        self.assertIs(is_apart(machine=two, value=[(0, 1)]), True)
        self.assertIs(is_apart(two, ((0, 1),)), True)
        for value in ([(1, 0)], [(0, 0)], [[0, 1]], [(0, 1), (0, 1)], [], [(0, True)], [(0, 1, 2)]):
            self.assertIs(is_apart(two, value), False)


class ResetTest(Case):
    def test_the_least_one(self):
        found = 0
        for machine in some_machines(60, 5):
            words = [word for word in words_of(machine.width, {0: 9, 1: 7, 2: 4}[machine.width])
                     if len(ends(machine, range(len(machine)), word)) == 1]
            right = min(words, key=lambda word: (len(word), word), default=None)
            told = reset(machine)
            if right is not None:
                self.assertEqual(told, right)
                found += 1
            elif told is not None:
                self.assertIs(is_reset(machine, told), True)
        self.assertGreater(found, 20)
        self.assertEqual([reset(machine=LATE), reset(FLIP), reset(ONE), any_reset(machine=LATE) is None], [[(0,)], None, [], False])

    def test_long_ones(self):
        for states in (2, 5, 9, 10):
            told = reset(cerny(states))
            self.assertEqual([len(told), is_reset(cerny(states), told)], [(states - 1) ** 2, True])
        for machine in (SIXTEEN, cerny(16)):
            word = any_reset(machine)
            self.assertEqual([is_reset(machine, word), len(word) <= 2000, type(word)], [True, True, list])

    def test_2000_lots_and_more(self):
        # from all 16 states words lead to more than 2,000 lots, though a short one is there, or none is
        self.refuses(TooMany, ["lots", 2000], reset, cerny(12))
        rows = [[goal for goal, _ in row] for row in cerny(12).rows()]
        short = Machine(2, 0, [[(goal, ()) for goal in row] + [(0, ()), (0, ())] for row in rows])
        self.assertEqual(any_reset(short) is None, False)
        self.refuses(TooMany, ["lots", 2000], reset, short)
        stays = Machine(1, 0, [[(goal, ()) for goal in row] for row in rows] + [[(12, ()), (12, ())]])
        self.assertEqual(reset(cerny(10)) is None, False)
        self.refuses(TooMany, ["lots", 2000], reset, stays)
        self.assertIsNotNone(apart(stays))

    def test_just_2000_lots_and_one_more(self):
        goals = [[1, 0], [2, 1], [3, 2], [4, 8], [5, 1], [6, 5], [7, 1], [8, 7], [9, 8], [10, 9], [11, 10], [0, 11]]
        just = Machine(1, 0, [[(goal, ()) for goal in row] for row in goals])
        self.assertEqual([count_lots(just), is_reset(just, reset(just))], [2000, True])
        goals = [[1, 0], [2, 1], [3, 9], [4, 3], [5, 4], [6, 5], [7, 9], [8, 3], [9, 8], [10, 9], [11, 10], [0, 11]]
        more = Machine(1, 0, [[(goal, ()) for goal in row] for row in goals])
        self.assertEqual(count_lots(more), 2001)
        self.refuses(TooMany, ["lots", 2000], reset, more)
        self.assertIs(is_reset(more, any_reset(more)), True)

    def test_any_value(self):
        for machine in (LATE, FLIP, cerny(3)):
            word = any_reset(machine) or [(0,)]
            for value in [word, tuple(word), []] + list(variants(word)) + ODD:
                right = is_said(value, machine.width) and len(ends(machine, range(len(machine)), value)) == 1
                self.assertIs(is_reset(machine, value), right)
        self.assertIs(is_reset(machine=ONE, value=[]), True)


def lock(*numbers):
    """A machine of five states that tells apart its states by no word that lacks four letters in their sequence."""
    rows = [[(state, (0,)) for _ in range(16)] for state in range(5)]
    for state, number in enumerate(numbers):
        rows[state][number] = (state + 1, (int(state == 3),))
    return Machine(4, 1, rows)


class HomingTest(Case):
    def test_the_least_one(self):
        for machine in some_machines(60, 5):
            classes = alike_states(machine)
            told = homing(machine)
            self.assertIs(naive_homing(machine, told, classes), True)
            less = [word for word in words_of(machine.width, len(told)) if (len(word), word) < (len(told), told)]
            self.assertEqual([word for word in less if naive_homing(machine, word, classes)], [])
            other = any_homing(machine)
            self.assertEqual([naive_homing(machine, other, classes), is_homing(machine, other), is_homing(machine, told)], [True] * 3)
            for word in less[:40]:
                self.assertIs(is_homing(machine, word), False)

    def test_any_value(self):
        for machine in list(some_machines(12, 4)) + [FLIP, LATE, ONE]:
            classes = alike_states(machine)
            word = any_homing(machine)
            for value in [word, tuple(word), word + word, []] + list(variants(word)) + ODD:
                right = is_said(value, machine.width) and naive_homing(machine, value, classes)
                self.assertIs(is_homing(machine, value), right)

    def test_ordinary(self):
        self.assertEqual([homing(machine=FLIP), homing(LATE), homing(ONE), any_homing(machine=ONE)], [[(1,)], [(0,)], [], []])
        # states that are not come to count, alike ones need no word
        apart_states = Machine(0, 1, [[(0, (0,))], [(1, (1,))], [(2, (0,))]])
        self.assertEqual(homing(apart_states), [()])
        self.assertEqual(homing(Machine(1, 1, [[(1, (0,)), (0, (0,))], [(0, (0,)), (1, (0,))]])), [])

    def test_just_5000_words_are_less_and_one_more(self):
        letters = letters_of(4)
        just = homing(lock(0, 2, 7, 7))
        self.assertEqual(just, [letters[at] for at in (0, 2, 7, 7)])
        self.assertEqual(1 + 16 + 256 + 4096 + 2 * 256 + 7 * 16 + 7, 5000)
        self.refuses(TooMany, ["words", 5000], homing, lock(0, 2, 7, 8))
        self.assertIs(is_homing(lock(0, 2, 7, 8), [letters[at] for at in (0, 2, 7, 8)]), True)
        self.assertIs(is_homing(lock(0, 2, 7, 8), any_homing(lock(0, 2, 7, 8))), True)
        self.assertIs(is_homing(SIXTEEN, any_homing(SIXTEEN)), True)


class WhereTest(Case):
    def test_all_answers(self):
        chance = random.Random(3)
        for machine in some_machines(40):
            for word in words_of(machine.width, 2):
                runs = [naive_run(machine, word, state) for state in range(len(machine))]
                for told in [run for run, _ in runs] + [[chance.choice(letters_of(machine.out_width)) for _ in word]]:
                    self.assertEqual(began(machine, word, told), [state for state, (run, _) in enumerate(runs) if run == told])
                    self.assertEqual(where(machine, word, told), sorted({end for run, end in runs if run == told}))
                    self.assertEqual(where(machine, tuple(word), tuple(told)), where(machine, word, told))

    def test_the_document(self):
        self.assertEqual(where(machine=FLIP, word=[(1,)], answer=[(1,)]), [0])
        self.assertEqual(began(machine=FLIP, word=[(1,)], answer=[(1,)]), [1])
        self.assertEqual([where(FLIP, [(0,)], [(1,)]), began(FLIP, [(0,)], [(1,)]), where(FLIP, [], []), began(ONE, [()], [()])], [[], [], [0, 1], [0]])

    def test_homing_words_tell_where(self):
        for machine in some_machines(30):
            word, classes = homing(machine), alike_states(machine)
            for state in range(len(machine)):
                told, end = naive_run(machine, word, state)
                found = where(machine, word, told)
                self.assertTrue(end in found and state in began(machine, word, told))
                self.assertEqual(len({classes[each] for each in found}), 1)

    def test_wrong_answers(self):
        for value in (None, 1, [], [(0,), (0,)], [(2,)], [(True,)], [[0]], [()], [0], "0", {(0,): 1}, (0,)):
            self.refuses_value(InvalidAnswer, value, where, FLIP, [(1,)], value)
            self.refuses_value(InvalidAnswer, value, began, answer=value, word=[(1,)], machine=FLIP)
        self.refuses(InvalidAnswer, [None], where, MORE, [], None)
        self.refuses(InvalidWord, [0], where, MORE, 0, None)

    def test_repeated_and_unchanged(self):
        for machine in some_machines(12):
            text = repr(machine)
            for call in (apart, reset, any_reset, homing, any_homing):
                self.assertEqual(call(machine), call(machine))
                self.unlike_lists(call(machine))
            lot, word = [0], [(0,) * machine.width]
            led(machine, lot, word)
            self.assertEqual([lot, word, repr(machine)], [[0], [(0,) * machine.width], text])
            self.assertIsNot(led(machine, lot, []), lot)
