"""Points [43] to [45], wirewords/alike.py, and of point [4] "Alike or parted"."""

import itertools
import random

from tests.helping import Case, letters_of
from tests.machining import (
    FLIP, LATE, NOTHING, WAIT, WIDE, copied, counter, naive_met, naive_run, random_machine, some_circuits, some_machines,
    words_of,
)
from wirewords.alike import (
    are_alike, are_circuits_alike, is_need_paper, is_parting, is_relation, least, need_paper, needed, parting,
    parting_states, relation, rounds, stands_for,
)
from wirewords.circuits import Circuit
from wirewords.errors import InvalidNumber, InvalidState, OtherWidths, TooMany
from wirewords.machines import Machine
from wirewords.states import circuit_of, machine_of

SMALL = Machine(1, 1, [[(0, (0,)), (0, (0,))]])


def naive_parting(one, other, state=0, twin=0, most=5):
    for word in words_of(one.width, most if one.width else 14):
        if word and naive_run(one, word, state)[0][-1] != naive_run(other, word, twin)[0][-1]:
            return word
    return None


def some_pairs(many):
    for seed in range(many):
        one = random_machine(seed, seed % 3, 1, 1 + seed % 4, 1 + (seed % 5 > 0))
        other = copied(one, seed)
        if seed % 3 == 0:
            other = random_machine(seed + 1, seed % 3, 1, 1 + seed % 4)
        if seed % 3 == 1:
            # a copy with one output, somewhere, otherwise
            rows = other.rows()
            chance = random.Random(seed)
            row, at = chance.randrange(len(rows)), chance.randrange(len(rows[0]))
            rows[row][at] = (rows[row][at][0], (1 - rows[row][at][1][0],))
            other = Machine(other.width, 1, rows)
        yield one, other


class AlikeTest(Case):
    def test_one_of_both(self):
        seen = {True: 0, False: 0}
        for one, other in some_pairs(120):
            word = parting(one, other)
            found = naive_parting(one, other)
            told = relation(one, other)
            if found is not None or word is None:
                self.assertEqual(word, found)
            self.assertIs(are_alike(one, other), word is None)
            self.assertIs(told is None, word is not None)
            seen[word is None] += 1
            if told is not None:
                self.assertIs(is_relation(one, other, told), True)
                self.check_relation(one, other, told)
            else:
                self.assertIs(is_parting(one, other, word), True)
                self.assertNotEqual(naive_run(one, word)[0][-1], naive_run(other, word)[0][-1])
        self.assertGreater(min(seen.values()), 15)

    def check_relation(self, one, other, told):
        self.assertEqual(told, sorted(set(told)))
        met = [(0, 0)]
        for state, twin in met:
            for (goal, out), (there, said) in zip(one.rows()[state], other.rows()[twin]):
                self.assertEqual(out, said)
                if (goal, there) not in met:
                    met.append((goal, there))
        self.assertEqual(told, sorted(met))

    def test_the_document(self):
        self.assertIs(are_alike(one=WIDE, other=LATE), True)
        self.assertEqual(parting(one=WIDE.begun(2), other=LATE), [(0,)])
        self.assertEqual(relation(one=WIDE, other=LATE), [(0, 0), (1, 0), (2, 1)])
        self.assertEqual([relation(SMALL, LATE), parting(LATE, SMALL)], [None, [(1,), (0,)]])

    def test_a_least_word_is_long_and_first(self):
        rows = [[(at + 1 if at < 63 else 63, (0,)), (at + 1 if at < 63 else 63, (0,))] for at in range(64)]
        other = [list(row) for row in rows]
        other[63] = [(63, (0,)), (63, (1,))]
        one, two = Machine(1, 1, rows), Machine(1, 1, other)
        self.assertEqual(parting(one, two), [(0,)] * 63 + [(1,)])
        self.assertEqual(relation(one, Machine(1, 1, rows)), [(at, at) for at in range(64)])
        self.unlike_lists(relation(one, one))

    def test_relations_of_any_value(self):
        good = [(0, 0), (1, 0), (2, 1)]
        for value in (good, tuple(good), good[::-1], [(2, 1), (0, 0), (1, 0)]):
            self.assertIs(is_relation(one=WIDE, other=LATE, value=value), True)
        wrong = [None, 5, True, "0", {}, {(0, 0): 1}, [], (), object(), WIDE, good[1:], good[:2], [good[0], good[2]]]
        wrong += [good + [each] for each in (
            (0, 0), (0, 1), (2, 0), (1, 1), (3, 0), (0, 2), (-1, 0), (0,), (0, 0, 0), None, [1, 0], "10", 1, ((1, 0),), ())]
        wrong += [[(False, 0)] + good[1:], [(0, False)] + good[1:], good[:2] + [(2, True)], good[:1] + [(True, 0)] + good[2:]]
        wrong += [[list(pair) for pair in good], [(0, None)] + good[1:], [([0], 0)] + good[1:]]
        for value in wrong:
            self.assertIs(is_relation(WIDE, LATE, value), False)
        # pairs that are not come to may stand in it, if they belong together
        lone = Machine(0, 1, [[(0, (0,))], [(1, (1,))]])
        for value in ([(0, 0)], [(0, 0), (1, 1)], [(1, 1), (0, 0)]):
            self.assertIs(is_relation(lone, lone, value), True)
        for value in ([(1, 1)], [(0, 0), (0, 1)], [(0, 0), (1, 0)]):
            self.assertIs(is_relation(lone, lone, value), False)

    def test_no_relation_where_a_word_parts(self):
        for one, other in itertools.islice(some_pairs(60), 60):
            if parting(one, other) is not None and len(one) * len(other) <= 9:
                pairs = list(itertools.product(range(len(one)), range(len(other))))
                for many in range(1, len(pairs) + 1):
                    for value in itertools.combinations(pairs, many):
                        self.assertIs(is_relation(one, other, value), False)

    def test_parting_words_of_any_value(self):
        one = WIDE.begun(2)
        for value in ([(0,)], ((1,),), [(0,)]):
            self.assertIs(is_parting(one=one, other=LATE, value=value), True)
        for value in (None, 5, True, "0", {}, {(0,): 1}, [], (), [(0, 0)], [()], [0], [(2,)], [(True,)], [(False,)], [[0]], [(0,), (0,)],
                      [(0,), (1,)], [(0,), None], object(), LATE):
            self.assertIs(is_parting(one, LATE, value), False)
        # it parts by its last letter, whatever was told ahead
        odd = Machine(0, 1, [[(1, (1,))], [(1, (0,))]])
        other = Machine(0, 1, [[(0, (0,))]])
        self.assertEqual([is_parting(odd, other, [()]), is_parting(odd, other, [(), ()])], [True, False])

    def test_widths(self):
        two = Machine(2, 1, [[(0, (0,))] * 4])
        out = Machine(1, 2, [[(0, (0, 0))] * 2])
        calls = [are_alike, relation, parting, stands_for]
        calls += [lambda one, other, call=call: call(one, other, None) for call in (is_relation, is_parting)]
        for call in calls:
            for one, other in ((LATE, two), (two, LATE), (LATE, out), (out, LATE)):
                error = self.refuses(OtherWidths, [one, other], call, one, other)
                self.assertIs(error.one, one)
                self.assertIs(error.other, other)


class CircuitsTest(Case):
    def test_by_their_machines(self):
        self.assertIs(are_circuits_alike(one=FLIP, other=circuit_of(machine_of(FLIP))), True)
        self.assertIs(are_circuits_alike(FLIP, WAIT), False)
        self.assertIs(are_circuits_alike(NOTHING, Circuit([], [("g", "low", [])], [("q", 0, "q")], [])), True)
        for _, circuit in some_circuits(30, 3, 2):
            self.assertIs(are_circuits_alike(circuit, circuit_of(machine_of(circuit))), True)

    def test_errors(self):
        wide, loud = Circuit(list("abcde"), [], [], ["a"]), Circuit(["x"], [], [], ["x"] * 5)
        for one, other in ((FLIP, wide), (wide, FLIP), (FLIP, loud), (loud, FLIP), (FLIP, NOTHING)):
            error = self.refuses(OtherWidths, [one, other], are_circuits_alike, one, other)
            self.assertIs(error.one, one)
            self.assertIs(error.other, other)
        self.refuses(TooMany, ["inputs", 4], are_circuits_alike, wide, wide)
        self.refuses(TooMany, ["outputs", 4], are_circuits_alike, loud, loud)
        self.refuses(TooMany, ["states", 64], are_circuits_alike, counter(8), FLIP)
        self.refuses(TooMany, ["states", 64], are_circuits_alike, FLIP, counter(8))
        self.refuses(TooMany, ["inputs", 4], are_circuits_alike, counter(8, 5), counter(8, 5))


class RoundsTest(Case):
    def naive_rounds(self, machine):
        states = range(len(machine))
        now = [list(states)]
        told = [now]
        while True:
            where = {state: at for at, group in enumerate(now) for state in group}
            keys = {}
            for state in states:
                row = [(out, where[goal]) for goal, out in machine.rows()[state]]
                keys.setdefault((where[state], tuple(row)), []).append(state)
            now = sorted(keys.values())
            told.append(now)
            if told[-1] == told[-2]:
                return told

    def test_against_plain_ones(self):
        for seed, machine in enumerate(some_machines(80, 8)):
            for made in (machine, copied(machine, seed)):
                self.assertEqual(rounds(made), self.naive_rounds(made))

    def test_the_document(self):
        self.assertEqual(rounds(machine=LATE), [[[0, 1]], [[0], [1]], [[0], [1]]])
        self.assertEqual(rounds(SMALL), [[[0]], [[0]]])
        self.assertEqual(rounds(WIDE), [[[0, 1, 2]], [[0, 1], [2]], [[0, 1], [2]]])
        self.unlike_lists(rounds(WIDE))

    def test_states_are_parted_from_their_round_on(self):
        for seed, machine in enumerate(some_machines(40, 4)):
            made = copied(machine, seed)
            told = rounds(made)
            for state, other in itertools.product(range(len(made)), repeat=2):
                word = parting_states(made, state, other)
                found = naive_parting(made, made, state, other)
                if found is not None or word is None:
                    self.assertEqual(word, found)
                unlike = [at for at, groups in enumerate(told)
                          if not any(state in group and other in group for group in groups)]
                self.assertEqual(None if word is None else len(word), unlike[0] if unlike else None)
                self.assertIs(are_alike(made.begun(state), made.begun(other)), word is None)

    def test_parting_states(self):
        self.assertEqual(parting_states(machine=WIDE, state=1, other=2), [(0,)])
        self.assertEqual([parting_states(WIDE, 0, 1), parting_states(WIDE, 2, 2)], [None, None])
        for value in (3, -1, True, False, None, "0", [], (0,)):
            self.refuses_value(InvalidState, value, parting_states, WIDE, value, None)
            self.refuses_value(InvalidState, value, parting_states, WIDE, 0, value)


class LeastTest(Case):
    def test_alike_with_the_fewest_states(self):
        for seed, machine in enumerate(some_machines(80, 8)):
            for made in (machine, copied(machine, seed)):
                small = least(made)
                self.assertTrue(are_alike(small, made))
                self.assertEqual(small.trimmed(), small)
                self.assertEqual(needed(machine=made), len(small))
                for one, other in itertools.combinations(range(len(small)), 2):
                    self.assertIsNotNone(naive_parting(small, small, one, other))
                for other in (copied(made, seed + 1), made.trimmed(), small, copied(small, seed)):
                    self.assertEqual(least(machine=other), small)

    def test_alike_exactly_if_equal(self):
        for one, other in some_pairs(80):
            self.assertIs(least(one) == least(other), are_alike(one, other))

    def test_states_that_are_not_come_to(self):
        made = Machine(0, 1, [[(0, (0,))], [(0, (1,))], [(1, (0,))]])
        self.assertEqual([least(made), needed(made)], [Machine(0, 1, [[(0, (0,))]]), 1])
        self.assertEqual(least(WIDE), LATE)

    def test_64_states(self):
        rows = [[((at + 1) % 64, (int(at == 63),))] for at in range(64)]
        machine = Machine(0, 1, rows)
        self.assertEqual([needed(machine), least(machine)], [64, machine])
        self.assertEqual(needed(Machine(0, 1, [[((at + 1) % 64, (at % 2,))] for at in range(64)])), 2)


class NeedTest(Case):
    def test_for_each_number_up_to_the_least_one(self):
        for seed, machine in enumerate(some_machines(40, 6)):
            made = copied(machine, seed)
            many = needed(made)
            for number in range(1, many + 1):
                told = need_paper(machine=made, number=number)
                self.assertIs(is_need_paper(machine=made, number=number, value=told), True)
                self.check_paper(made, number, told)
                for other in {number - 1, number + 1, 1} - {0, number}:
                    self.assertIs(is_need_paper(made, other, told), False)
                self.unlike_lists(told)
            for number in (many + 1, many + 7, 10 ** 25):
                self.assertIsNone(need_paper(made, number))

    def check_paper(self, machine, number, told):
        words, partings = told
        self.assertEqual([type(told), type(words), type(partings), len(words)], [tuple, list, dict, number])
        self.assertEqual(list(partings), list(itertools.combinations(range(number), 2)))
        for (one, other), word in partings.items():
            starts = [naive_run(machine, words[at])[1] for at in (one, other)]
            self.assertNotEqual(*[naive_run(machine, word, start)[0][-1] for start in starts])

    def test_64_states(self):
        machine = Machine(0, 1, [[((at + 1) % 64, (int(at == 63),))] for at in range(64)])
        told = need_paper(machine, 64)
        self.assertEqual(len(told[1]), 2016)
        self.assertIs(is_need_paper(machine, 64, told), True)
        self.assertIsNone(need_paper(machine, 65))

    def test_the_document(self):
        self.assertIsNone(need_paper(LATE, 3))
        self.assertIs(is_need_paper(LATE, 2, ([[], [(1,)]], {(0, 1): [(0,)]})), True)
        self.assertIs(is_need_paper(LATE, 2, ((((1,),), ()), {(0, 1): ((0,),)})), True)
        self.assertEqual(need_paper(LATE, 1), ([[]], {}))
        self.assertIs(is_need_paper(LATE, 1, ([[(1,), (1,)]], {})), True)

    def test_any_value(self):
        words, partings = [[], [(1,)]], {(0, 1): [(0,)]}
        wrong = [None, 5, True, "0", {}, [], (), object(), [words, partings], (words,), (words, partings, 0), (partings, words)]
        wrong += [(value, partings) for value in (
            None, "01", {}, [], words[:1], words + [[]], [[], []], [[(1,)], [(0,), (1,)]], [[], [(2,)]], [[], [(True,)]],
            [[], [[1]]], [[], (1,)], [[], None], {0: [], 1: [(1,)]})]
        wrong += [(words, value) for value in (
            None, [], {}, [((0, 1), [(0,)])], {(1, 0): [(0,)]}, {(0, 1): []}, {(0, 1): [(2,)]}, {(0, 1): [(False,)]},
            {(0, 1): None}, {(0, 1): [(0,), (0,)]}, {(False, 1): [(0,)]}, {(0, True): [(0,)]}, {(0, 0): [(0,)]},
            {(0, 1): [(0,)], (1, 0): [(0,)]}, {(0, 1): [(0,)], (0, 2): [(0,)]}, {(0, 1, 2): [(0,)]}, {0: [(0,)]}, {None: [(0,)]},
            {"01": [(0,)]})]
        for value in wrong:
            self.assertIs(is_need_paper(LATE, 2, value), False)
        self.assertIs(is_need_paper(LATE, 10 ** 25, (words, partings)), False)
        for call in (need_paper, lambda machine, number: is_need_paper(machine, number, None)):
            for value in (0, -1, True, False, None, "1", (1,), [], object()):
                self.refuses_value(InvalidNumber, value, call, LATE, value)

    def test_no_paper_beyond(self):
        # all words that are short enough, and all partings of one letter or two
        words = list(words_of(1, 2))
        for picks in itertools.product(words[:4], repeat=3):
            for parts in itertools.product(words[1:], repeat=3):
                value = (list(picks), dict(zip([(0, 1), (0, 2), (1, 2)], parts)))
                self.assertIs(is_need_paper(LATE, 3, value), False)


class StandsForTest(Case):
    def test_the_least_state(self):
        for seed, machine in enumerate(some_machines(60, 5)):
            made = copied(machine, seed)
            other = random_machine(seed + 3, machine.width, machine.out_width, 2, 1)
            for twin in (machine.begun(len(machine) - 1), other, made):
                alike = [state for state in range(len(made)) if are_alike(made.begun(state), twin)]
                self.assertEqual(stands_for(machine=made, other=twin), alike[0] if alike else None)

    def test_the_document(self):
        self.assertEqual(stands_for(LATE, WIDE.begun(2)), 1)
        self.assertEqual([stands_for(LATE, SMALL), stands_for(SMALL, LATE), stands_for(WIDE, LATE)], [None, None, 0])

    def test_a_state_that_is_not_come_to(self):
        made = Machine(0, 1, [[(0, (0,))], [(1, (1,))]])
        self.assertEqual(stands_for(made, Machine(0, 1, [[(0, (1,))]])), 1)
        self.assertEqual(naive_met(made), [0])

    def test_64_states_each(self):
        one, other = random_machine(1, 4, 1, 64), random_machine(2, 4, 1, 64)
        self.assertIsNone(stands_for(one, other))
        self.assertEqual(stands_for(one, one.begun(63)), 63)
        self.assertEqual(letters_of(4), one.letters())
