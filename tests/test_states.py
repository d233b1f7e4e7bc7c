"""Point [42] and wirewords/states.py."""

import random

from tests.helping import ODD, Case, letters_of
from tests.machining import (
    FLIP, LATE, NOTHING, WAIT, WIDE, counter, naive_answer, naive_run, random_machine, some_circuits, some_machines,
    words_of,
)
from wirewords.alike import are_alike
from wirewords.circuits import Circuit
from wirewords.errors import InvalidFault, OtherWidths, TooMany
from wirewords.machines import Machine
from wirewords.made import behind
from wirewords.runs import answer
from wirewords.states import chained, circuit_of, machine_of, paired, states_of


class MachineOfTest(Case):
    def naive_states(self, parts, stuck):
        met = [naive_answer(parts, [])[1]]
        for here in met:
            for letter in letters_of(len(parts[0])):
                there = naive_answer(parts, [letter], here, stuck)[1]
                if there not in met:
                    met.append(there)
        return met

    def test_against_plain_runs(self):
        for seed, (parts, circuit) in enumerate(some_circuits(60)):
            wires = circuit.wires()
            stucks = [None] + ([(wires[seed % len(wires)], seed // 2 % 2)] if wires else [])
            for stuck in stucks + [(row[0], 1) for row in parts[2][:1]]:
                met = self.naive_states(parts, stuck)
                self.assertEqual(states_of(circuit, stuck), met)
                rows = []
                for here in met:
                    row = [naive_answer(parts, [letter], here, stuck) for letter in letters_of(len(parts[0]))]
                    rows.append([(met.index(there), told[0]) for told, there in row])
                self.assertEqual(machine_of(circuit, stuck), Machine(len(parts[0]), len(parts[3]), rows))

    def test_answers_as_the_circuit_does(self):
        for seed, (_, circuit) in enumerate(some_circuits(40)):
            chance = random.Random(seed)
            word = [chance.choice(letters_of(len(circuit.inputs()))) for _ in range(15)]
            stuck = (chance.choice(circuit.wires()), chance.randrange(2)) if circuit.wires() else None
            for each in (None, stuck):
                self.assertEqual(machine_of(circuit, each).answer(word), answer(circuit, word, stuck=each))
                self.assertEqual(machine_of(circuit, each).trimmed(), machine_of(circuit, each))

    def test_the_document(self):
        self.assertEqual(machine_of(FLIP), Machine(1, 1, [[(0, (0,)), (1, (1,))], [(1, (1,)), (0, (0,))]]))
        self.assertEqual(states_of(circuit=FLIP, stuck=("q", 1)), [(0,), (1,)])
        self.assertEqual(machine_of(circuit=FLIP, stuck=("q", 0)), Machine(1, 1, [[(0, (0,)), (1, (1,))]] * 2))

    def test_states_as_they_are_met(self):
        made = Circuit(["x"], [], [("a", 1, "x"), ("b", 0, "a")], ["b"])
        self.assertEqual(states_of(made), [(1, 0), (0, 1), (1, 1), (0, 0)])

    def test_nothing_there(self):
        self.assertEqual([states_of(NOTHING), machine_of(NOTHING)], [[()], Machine(0, 0, [[(0, ())]])])
        silent = Circuit(["x", "y"], [], [("q", 1, "x")], [])
        self.assertEqual(machine_of(silent), Machine(2, 0, [[(1, ()), (1, ()), (0, ()), (0, ())]] * 2))
        self.assertEqual(states_of(Circuit(["x"], [], [], ["x"])), [()])

    def test_limits_just_so(self):
        four = Circuit(list("abcd"), [], [], list("dcba"))
        self.assertEqual(machine_of(four).rows(), [[(0, letter[::-1]) for letter in letters_of(4)]])
        five_in, five_out = Circuit(list("abcde")), Circuit(list("abcd"), [], [], list("abcda"))
        for call in (machine_of, states_of):
            self.refuses(TooMany, ["inputs", 4], call, five_in)
            self.refuses(TooMany, ["outputs", 4], call, five_out)
            self.refuses(TooMany, ["inputs", 4], call, Circuit(list("abcde"), [], [], list("abcde")))
            self.assertEqual(len(call(counter(6))), 64)
            self.assertEqual(len(call(counter(7, limit=64))), 64)
            self.refuses(TooMany, ["states", 64], call, counter(7, limit=65))
            self.refuses(TooMany, ["states", 64], call, counter(8))
            self.refuses(TooMany, ["outputs", 4], call, counter(8, 1, 5))
            # with a register's source stuck fewer states come
            self.assertEqual(len(call(counter(7), ("tq0", 0))), 64)
            self.refuses(TooMany, ["states", 64], call, counter(7), ("q0", 0))

    def test_faults(self):
        for call in (machine_of, states_of):
            for value in ODD + [("q",), ("q", 2), ("q", True), ["q", 0], ("z", 0), ("q", 0, 0), (None, 0), (["q"], 0)]:
                if value is not None:
                    self.refuses_value(InvalidFault, value, call, FLIP, value)
            self.refuses_value(InvalidFault, "q", call, Circuit(list("abcde")), "q")
        self.unlike_lists(states_of(FLIP))


class CircuitOfTest(Case):
    def check(self, machine):
        made = circuit_of(machine=machine)
        self.assertEqual(made.inputs(), ["x%d" % k for k in range(machine.width)])
        self.assertEqual(len(made.outputs()), machine.out_width)
        told = machine_of(made)
        self.assertLessEqual(len(told), len(machine))
        self.assertTrue(are_alike(told, machine))
        return made

    def test_alike_with_no_more_states(self):
        for machine in some_machines(60, 16):
            self.check(machine)
        for seed in range(6):
            self.check(random_machine(seed, 2, 2, 16))
        for width in (0, 1, 2):
            self.check(Machine.late(width))
        self.check(WIDE)

    def test_the_circuit_answers_as_the_machine(self):
        for seed in range(12):
            machine = random_machine(seed, 2, seed % 3, 1 + seed)
            for word in words_of(2, 3):
                self.assertEqual(answer(circuit_of(machine), word), naive_run(machine, word)[0])

    def test_small_ones(self):
        for out in ((), (0,), (1,), (0, 1)):
            for width in (0, 1, 2):
                self.check(Machine(width, len(out), [[(0, out)] * 2 ** width]))

    def test_states_that_are_not_come_to(self):
        made = self.check(Machine(0, 1, [[(0, (1,))]] + [[(1, (0,))]] * 15))
        self.assertEqual(len(machine_of(made)), 1)

    def test_limits(self):
        self.refuses(TooMany, ["states", 16], circuit_of, random_machine(0, 3, 3, 17))
        self.refuses(TooMany, ["states", 16], circuit_of, Machine(0, 0, [[(0, ())]] * 17))
        self.refuses(TooMany, ["inputs", 2], circuit_of, random_machine(0, 3, 3, 16))
        self.refuses(TooMany, ["outputs", 2], circuit_of, random_machine(0, 2, 3, 16))
        self.assertEqual(circuit_of(WIDE), circuit_of(WIDE))


class PairedTest(Case):
    def test_paired(self):
        for seed in range(40):
            one, other = random_machine(seed, seed % 3, seed % 3, 1 + seed % 5), random_machine(-seed, seed % 3, 1 + seed % 2, 4)
            made = paired(one=one, other=other)
            self.assertEqual([made.width, made.out_width], [one.width, one.out_width + other.out_width])
            self.assertEqual(made.trimmed(), made)
            pairs = set()
            for word in words_of(one.width, 4 if one.width else 9):
                told, state = naive_run(one, word)
                said, twin = naive_run(other, word)
                pairs.add((state, twin))
                self.assertEqual(made.answer(word), [ours + theirs for ours, theirs in zip(told, said)])
            self.assertGreaterEqual(len(made), len(pairs))
            self.assertLessEqual(len(made), len(one) * len(other))

    def test_chained(self):
        for seed in range(40):
            one, other = random_machine(seed, seed % 3, seed % 2, 1 + seed % 5), random_machine(-seed, seed % 2, seed % 4, 4)
            made = chained(one=one, other=other)
            self.assertEqual([made.width, made.out_width], [one.width, other.out_width])
            self.assertEqual(made.trimmed(), made)
            for word in words_of(one.width, 4 if one.width else 9):
                self.assertEqual(made.answer(word), naive_run(other, naive_run(one, word)[0])[0])

    def test_as_the_machine_of_circuits_behind_one_another(self):
        self.assertEqual(chained(machine_of(FLIP), machine_of(WAIT)), machine_of(behind(FLIP, WAIT)))
        self.assertEqual(chained(machine_of(WAIT), machine_of(FLIP)), machine_of(behind(WAIT, FLIP)))
        circuits = [circuit for _, circuit in some_circuits(40)]
        found = 0
        for one, other in zip(circuits, circuits[1:] + circuits[7:]):
            if len(one.outputs()) == len(other.inputs()):
                found += 1
                self.assertEqual(chained(machine_of(one), machine_of(other)), machine_of(behind(one, other)))
        self.assertGreater(found, 3)

    def test_the_document(self):
        self.assertEqual(len(chained(LATE, LATE)), 4)
        self.assertEqual(paired(LATE, LATE).rows(), [[(0, (0, 0)), (1, (0, 0))], [(0, (1, 1)), (1, (1, 1))]])

    def test_numbers_as_they_are_met(self):
        flip = machine_of(FLIP)
        self.assertEqual(chained(LATE, flip).rows(), [[(0, (0,)), (1, (0,))], [(2, (1,)), (3, (1,))],
                                                      [(2, (1,)), (3, (1,))], [(0, (0,)), (1, (0,))]])

    def test_limits(self):
        none = Machine(0, 0, [[(0, ())]])
        eight = Machine(0, 4, [[((at + 1) % 8, (0, 0, 0, 0))] for at in range(8)])
        nine = Machine(0, 0, [[((at + 1) % 9, ())] for at in range(9)])
        seven = Machine(0, 0, [[((at + 1) % 7, ())] for at in range(7)])
        self.assertEqual([len(paired(eight, seven)), len(paired(nine, seven)), paired(none, eight)], [56, 63, eight])
        self.refuses(TooMany, ["states", 64], paired, eight, nine)
        self.refuses(TooMany, ["outputs", 4], paired, eight, Machine(0, 1, [[(0, (0,))]]))
        full = Machine(0, 0, [[((at + 1) % 64, ())] for at in range(64)])
        self.assertEqual([len(paired(full, none)), len(chained(full, none)), len(chained(seven, nine))], [64, 64, 63])
        self.refuses(TooMany, ["states", 64], chained, full, nine)
        self.refuses(TooMany, ["outputs", 4], paired, Machine(0, 4, [[(0, (0,) * 4)]]), Machine(0, 4, [[(0, (0,) * 4)]]))

    def test_widths(self):
        one, two = Machine(1, 2, [[(0, (0, 0))] * 2]), Machine(2, 1, [[(0, (0,))] * 4])
        for call, first, second in ((paired, one, two), (paired, two, one), (chained, one, one), (chained, two, two)):
            error = self.refuses(OtherWidths, [first, second], call, first, second)
            self.assertIs(error.one, first)
            self.assertIs(error.other, second)
        self.assertEqual([chained(one, two).out_width, chained(two, one).width, paired(one, LATE).out_width], [1, 2, 3])
        # unlike out widths may be paired, unlike widths chained; widths come ahead of limits
        self.refuses(OtherWidths, [Machine(1, 4, [[(0, (0,) * 4)] * 2]), two], paired, Machine(1, 4, [[(0, (0,) * 4)] * 2]), two)
