"""Point [41], wirewords/machines.py, and of point [37] that latches are numbered as machines are."""

import random

from tests.helping import ODD, Case, letters_of
from tests.machining import LATE, WIDE, naive_met, naive_run, random_machine, some_machines
from tests.tangling import held_at, some_tangles
from wirewords.errors import InvalidLetter, InvalidRows, InvalidState, InvalidWidth, InvalidWord, TooMany
from wirewords.machines import Machine
from wirewords.settling import latch


class OrdinaryTest(Case):
    def test_the_document(self):
        self.assertEqual(repr(LATE), "Machine(1, 1, [[(0, (0,)), (1, (0,))], [(0, (1,)), (1, (1,))]])")
        self.assertEqual(LATE.answer([(1,), (0,), (1,)]), [(0,), (1,), (0,)])

    def test_runs_against_plain_ones(self):
        for seed, machine in enumerate(some_machines(60, 9)):
            chance = random.Random(seed)
            letters = letters_of(machine.width)
            word = [chance.choice(letters) for _ in range(12)]
            told, state = naive_run(machine, word)
            self.assertEqual(machine.answer(word), told)
            self.assertEqual(machine.behind(word), state)
            self.assertEqual([machine.answer(tuple(word)), machine.behind(tuple(word))], [told, state])
            self.assertEqual(machine.letters(), letters)
            for at, row in enumerate(machine.rows()):
                self.assertEqual([machine.step(at, letter) for letter in letters], row)

    def test_come_to_begun_and_trimmed(self):
        for machine in some_machines(60, 9):
            self.assertEqual(machine.come_to(), sorted(naive_met(machine)))
            self.assertEqual(machine.trimmed(), machine.begun(0))
            for state in range(len(machine)):
                met = naive_met(machine, state)
                rows = [[(met.index(goal), out) for goal, out in machine.rows()[here]] for here in met]
                self.assertEqual(machine.begun(state), Machine(machine.width, machine.out_width, rows))
            self.assertEqual(machine.trimmed().trimmed(), machine.trimmed())

    def test_numbers_go_state_by_state_and_letter_by_letter(self):
        machine = Machine(1, 0, [[(3, ()), (1, ())], [(2, ()), (0, ())], [(2, ()), (2, ())], [(1, ()), (3, ())]])
        self.assertEqual(machine.trimmed().rows(), [[(1, ()), (2, ())], [(2, ()), (1, ())], [(3, ()), (0, ())],
                                                    [(3, ()), (3, ())]])
        self.assertEqual(machine.begun(2), Machine(1, 0, [[(0, ()), (0, ())]]))
        self.assertEqual(WIDE.begun(2).come_to(), [0, 1, 2])

    def test_parts(self):
        self.assertEqual([WIDE.width, WIDE.out_width, len(WIDE), Machine.MOST_STATES, WIDE.MOST_STATES], [1, 1, 3, 64, 64])
        made = Machine(out_width=1, rows=(((1, (0,)), (2, (0,))), [(1, (0,)), (2, (0,))], ((0, (1,)), (2, (1,)))), width=1)
        self.assertEqual(made, WIDE)
        self.assertEqual(made.step(state=2, letter=(0,)), (0, (1,)))
        self.assertEqual([made.answer(word=[(1,)]), made.behind(word=[(1,)]), made.begun(state=2)], [[(0,)], 2, WIDE.begun(2)])

    def test_equal(self):
        self.assertTrue(LATE == Machine.late(1))
        for other in (WIDE, Machine(1, 1, [[(0, (0,)), (0, (0,))]]), None, 5, LATE.rows(), repr(LATE)):
            self.assertFalse(LATE == other)
            self.assertTrue(LATE != other)
        # widths are parts, too
        self.assertFalse(Machine(0, 0, [[(0, ())]]) == Machine(0, 1, [[(0, (0,))]]))
        self.assertEqual(eval(repr(WIDE), {"Machine": Machine}), WIDE)

    def test_what_is_passed_stays_and_what_is_told_is_new(self):
        rows = [[(0, (0,)), (1, (0,))], [(0, (1,)), (1, (1,))]]
        made = Machine(1, 1, rows)
        rows[0][0] = (1, (1,))
        rows.pop()
        self.assertEqual(made, LATE)
        for call in (made.rows, made.letters, made.come_to, lambda: made.answer([(1,)])):
            self.unlike_lists(call())
            told = call()
            told.clear()
            self.assertEqual(made, LATE)
            self.assertNotEqual(call(), [])
        made.rows()[0].clear()
        self.assertEqual([len(row) for row in made.rows()], [2, 2])


class EdgesTest(Case):
    def test_widths_0_and_4(self):
        small = Machine(0, 0, [[(0, ())]])
        self.assertEqual([small.answer([(), ()]), small.behind([()]), small.letters(), repr(small)],
                         [[(), ()], 0, [()], "Machine(0, 0, [[(0, ())]])"])
        great = random_machine(1, 4, 4, 64)
        self.assertEqual([len(great), great.width, great.out_width, len(great.rows()[63])], [64, 4, 4, 16])
        word = letters_of(4) * 3
        self.assertEqual((great.answer(word), great.behind(word)), naive_run(great, word))
        self.assertEqual(great.begun(63).answer(word), naive_run(great, word, 63)[0])

    def test_the_empty_word(self):
        for word in ([], ()):
            self.assertEqual([LATE.answer(word), LATE.behind(word)], [[], 0])

    def test_64_states_and_one_more(self):
        rows = [[((at + 1) % 64, ())] for at in range(64)]
        self.assertEqual(len(Machine(0, 0, rows).come_to()), 64)
        self.refuses(TooMany, ["states", 64], Machine, 0, 0, [[(0, ())]] * 65)

    def test_late(self):
        self.assertEqual(Machine.late(0), Machine(0, 0, [[(0, ())]]))
        for width in (0, 1, 2):
            machine = Machine.late(width=width)
            self.assertEqual([len(machine), machine.width, machine.out_width], [2 ** width, width, width])
            word = letters_of(width) * 2
            self.assertEqual(machine.answer(word), [(0,) * width] + word[:-1])
            for at, row in enumerate(machine.rows()):
                self.assertEqual(row, [(goal, letters_of(width)[at]) for goal in range(2 ** width)])
        for width in (3, 4):
            self.refuses(TooMany, ["inputs", 2], Machine.late, width)
        for value in (5, -1, True, False, None, "1", (1,), [], 10 ** 20):
            self.refuses_value(InvalidWidth, value, Machine.late, value)


class WrongTest(Case):
    def test_widths(self):
        for value in (5, -1, True, False, None, "1", (1,), [], object(), 10 ** 29):
            self.refuses_value(InvalidWidth, value, Machine, value, None, None)
            self.refuses_value(InvalidWidth, value, Machine, 1, value, None)
            self.refuses_value(InvalidWidth, value, Machine, rows=None, out_width=value, width=1)

    def test_rows(self):
        good = [(0, (0,)), (1, (0,))]
        for value in ODD:
            if not isinstance(value, (list, tuple)) or not value:
                self.refuses(InvalidRows, [None], Machine, 1, 1, value)
        for wrong in ODD + [good[:1], good + good[:1], [good[0], [1, (0,)]], [good[0], (1,)], [good[0], (1, (0,), 0)]]:
            self.refuses(InvalidRows, [1], Machine, 1, 1, [good, wrong, None])
            self.refuses(InvalidRows, [0], Machine, 1, 1, (wrong,))
        for state in (2, -1, True, False, None, "0", (0,), [0]):
            self.refuses(InvalidRows, [1], Machine, 1, 1, [good, [(0, (0,)), (state, (0,))]])
        for out in ((), (0, 0), (2,), (-1,), (True,), (False,), [0], 0, None, "0"):
            self.refuses(InvalidRows, [1], Machine, 1, 1, [good, [(0, out), (0, (0,))]])
        # the number of the rows goes ahead of what is in them, too many states come last
        self.refuses(InvalidRows, [65], Machine, 0, 0, [[(0, ())]] * 65 + [None])

    def test_states_letters_and_words(self):
        for value in (2, -1, True, False, None, "0", (0,), [], object()):
            self.refuses_value(InvalidState, value, LATE.step, value, None)
            self.refuses_value(InvalidState, value, LATE.begun, value)
            self.refuses_value(InvalidState, value, LATE.step, letter=None, state=value)
        for value in ((), (0, 0), (2,), (True,), [0], 0, None, "0", object()):
            self.refuses_value(InvalidLetter, value, LATE.step, 1, value)
            for word in ([value], [(0,), value], ((0,), value)):
                self.refuses_value(InvalidWord, word, LATE.answer, word)
                self.refuses_value(InvalidWord, word, LATE.behind, word)
        for value in (None, 5, "01", {(0,): 1}, True, object()):
            self.refuses_value(InvalidWord, value, LATE.answer, value)
            self.refuses_value(InvalidWord, value, LATE.behind, value)


class LatchTest(Case):
    def test_latches_and_machines_are_numbered_alike(self):
        found = 0
        for tangle in some_tangles(90, 3):
            for letter, standing in held_at(tangle):
                told = latch(tangle, letter, standing)
                if told is not None:
                    rests, rows = told
                    found += len(rests) > 2
                    machine = Machine(len(tangle.inputs()), 0, [[(goal, ()) for goal in row] for row in rows])
                    self.assertEqual(machine.trimmed(), machine)
                    self.assertEqual(len(machine), len(rests))
        self.assertGreater(found, 10)
