"""Points [12] and [15], and the class Circuit."""

import itertools
import random
import unittest

from tests.helping import Case, random_parts
from wirewords.circuits import Circuit
from wirewords.errors import (
    GateRing,
    InvalidGates,
    InvalidInputs,
    InvalidOutputs,
    InvalidRegisters,
    TooMany,
    UnknownWire,
)

FLIP = (["x"], [("n", "xor", ["x", "q"])], [("q", 0, "n")], ["n"])


def flip():
    return Circuit(*FLIP)


def numbered(sign, many):
    return ["%s%d" % (sign, k) for k in range(many)]


class MakingTest(Case):
    def test_by_position_and_by_name(self):
        self.assertEqual(Circuit(inputs=FLIP[0], gates=FLIP[1], registers=FLIP[2], outputs=FLIP[3]), flip())
        self.assertEqual(Circuit([]), Circuit([], [], [], []))
        self.assertEqual(Circuit(["x"], outputs=["x"]), Circuit(["x"], [], [], ["x"]))

    def test_tuples_may_stand_for_lists(self):
        self.assertEqual(Circuit(("x",), (("n", "xor", ("x", "q")),), (("q", 0, "n"),), ("n",)), flip())

    def test_parts_that_lack(self):
        empty = Circuit([])
        self.assertEqual([empty.inputs(), empty.gates(), empty.registers(), empty.outputs()], [[], [], [], []])
        self.assertEqual([empty.wires(), empty.first(), empty.sequence(), len(empty)], [[], (), [], 0])
        alone = Circuit([], [], [("q", 1, "q")], ["q", "q"])
        self.assertEqual([alone.first(), alone.cone("q"), alone.outputs()], [(1,), ["q"], ["q", "q"]])

    def test_what_is_passed_is_copied_and_not_changed(self):
        inputs, gates, registers, outputs = ["x"], [("n", "xor", ["x", "q"])], [("q", 0, "n")], ["n"]
        made = Circuit(inputs, gates, registers, outputs)
        self.assertEqual([inputs, gates, registers, outputs], list(FLIP))
        inputs.append("y")
        gates[0][2].append("z")
        gates.append(5)
        registers.clear()
        outputs[0] = "x"
        self.assertEqual(made, flip())
        self.assertEqual(repr(made), repr(flip()))

    def test_what_is_told_is_new(self):
        made = flip()
        for _ in range(2):
            gates = made.gates()
            self.assertEqual(gates, [("n", "xor", ["x", "q"])])
            gates[0][2].clear()
            for told in (gates, made.inputs(), made.registers(), made.outputs(), made.wires(), made.sequence()):
                told.append("y")
            for told in (made.sources("n"), made.uses("x"), made.cone("n")):
                told.clear()
        self.assertEqual(made, flip())
        self.assertEqual([made.wires(), made.sequence(), made.sources("n")], [["n", "q", "x"], ["n"], ["x", "q"]])
        self.assertEqual([made.uses("x"), made.cone("n")], [["n"], ["n", "q", "x"]])
        two = Circuit(["x"], [("a", "not", ["x"]), ("b", "not", ["x"])])
        self.unlike_lists(two.gates())

    def test_names_may_be_long_and_wires_stand_more_than_once(self):
        long = "a23456789012"
        made = Circuit([long], [("g", "and", [long, long])], [("r", 1, long)], ["g", "g", long, "r"])
        self.assertEqual(made.outputs(), ["g", "g", long, "r"])
        self.assertEqual(made.uses(long), ["g", "r"])

    def test_rings_through_registers_are_let(self):
        made = Circuit([], [("a", "not", ["q"]), ("b", "and", ["a", "p"])], [("q", 0, "b"), ("p", 1, "q")])
        self.assertEqual(made.cone("q"), ["a", "b", "p", "q"])
        self.assertEqual(Circuit([], [], [("p", 1, "q"), ("q", 0, "p")]).first(), (1, 0))

    def test_limits_are_let(self):
        gates = [("g%d" % k, "not", ["i0"]) for k in range(200)]
        registers = [("r%d" % k, k % 2, "i0") for k in range(8)]
        made = Circuit(numbered("i", 8), gates, registers, ["g0"] * 8)
        self.assertEqual([len(made.inputs()), len(made), len(made.first()), len(made.outputs())], [8, 200, 8, 8])

    def test_a_long_chain_of_gates(self):
        gates = [("g%03d" % k, "not", ["g%03d" % (k - 1) if k else "x"]) for k in range(200)]
        made = Circuit(["x"], list(reversed(gates)), [], ["g199"])
        self.assertEqual(made.sequence(), [gate[0] for gate in gates])
        self.assertEqual(len(made.cone("g199")), 201)


class TellingTest(Case):
    def setUp(self):
        self.made = Circuit(
            ["y", "x"],
            [("h", "high", []), ("c", "pick", ["a", "x", "q"]), ("a", "and", ("x", "y"))],
            [("q", 1, "c"), ("p", 0, "y")],
            ["c", "y", "c"],
        )

    def test_lists(self):
        self.assertEqual(self.made.inputs(), ["y", "x"])
        told = [("a", "and", ["x", "y"]), ("c", "pick", ["a", "x", "q"]), ("h", "high", [])]
        self.assertEqual(self.made.gates(), told)
        self.assertEqual(self.made.registers(), [("p", 0, "y"), ("q", 1, "c")])
        self.assertEqual(self.made.outputs(), ["c", "y", "c"])
        self.assertEqual(self.made.wires(), ["a", "c", "h", "p", "q", "x", "y"])
        self.assertEqual(self.made.first(), (0, 1))
        self.assertEqual(len(self.made), 3)

    def test_of_one_wire(self):
        kinds = [self.made.kind(wire) for wire in self.made.wires()]
        self.assertEqual(kinds, ["and", "pick", "high", "register", "register", "input", "input"])
        sources = [self.made.sources(wire) for wire in self.made.wires()]
        self.assertEqual(sources, [["x", "y"], ["a", "x", "q"], [], ["y"], ["c"], [], []])
        uses = [self.made.uses(wire) for wire in self.made.wires()]
        self.assertEqual(uses, [["c"], ["q"], [], [], ["c"], ["a", "c"], ["a", "p"]])
        self.assertEqual(self.made.uses(wire="y"), ["a", "p"])
        self.assertEqual([self.made.kind(wire="q"), self.made.sources(wire="q")], ["register", ["c"]])

    def test_cones_go_through_registers(self):
        cones = {wire: self.made.cone(wire=wire) for wire in self.made.wires()}
        self.assertEqual(cones["c"], ["a", "c", "q", "x", "y"])
        self.assertEqual(cones["q"], ["a", "c", "q", "x", "y"])
        self.assertEqual([cones["p"], cones["h"], cones["x"]], [["p", "y"], ["h"], ["x"]])

    def test_unknown_wires(self):
        for value in ("z", "", "A", None, True, 0, ["a"], ("a",), {}, object()):
            for method in (self.made.kind, self.made.sources, self.made.uses, self.made.cone):
                self.refuses_value(UnknownWire, value, method, value)
                self.refuses_value(UnknownWire, value, method, wire=value)

    def test_in(self):
        for wire in self.made.wires():
            self.assertIs(wire in self.made, True)
        for value in ("z", "", "and", None, 1, ["a"], ("a",), {}, object(), self.made):
            self.assertIs(value in self.made, False)

    def test_it_is_not_iterated_over(self):
        with self.assertRaises(TypeError):
            iter(self.made)

    def test_repr(self):
        self.assertEqual(repr(flip()), "Circuit(['x'], [('n', 'xor', ['x', 'q'])], [('q', 0, 'n')], ['n'])")
        self.assertEqual(repr(Circuit(["x"], [("g", "not", ("x",))], (), ("g",))),
                         "Circuit(['x'], [('g', 'not', ['x'])], [], ['g'])")
        self.assertEqual(eval(repr(self.made)), self.made)


class SequenceTest(Case):
    def test_the_least_that_may_come_next(self):
        made = Circuit(["x"], [("a", "not", ["d"]), ("b", "not", ["x"]), ("c", "low", []), ("d", "not", ["x"])])
        self.assertEqual(made.sequence(), ["b", "c", "d", "a"])
        made = Circuit([], [("a", "and", ["z", "z"]), ("z", "low", []), ("b", "not", ["a"]), ("y", "high", [])])
        self.assertEqual(made.sequence(), ["y", "z", "a", "b"])

    def test_registers_do_not_hold_gates_up(self):
        made = Circuit([], [("a", "not", ["q"]), ("b", "low", [])], [("q", 0, "b")])
        self.assertEqual(made.sequence(), ["a", "b"])

    def test_against_a_plain_search(self):
        for seed in range(40):
            parts = random_parts(seed, gates=9)
            made = Circuit(*parts)
            left = {name: {s for s in sources if s in dict.fromkeys(g[0] for g in parts[1])}
                    for name, _, sources in parts[1]}
            told = []
            while left:
                told.append(min(name for name in left if left[name] <= set(told)))
                del left[told[-1]]
            self.assertEqual(made.sequence(), told)


class EqualTest(Case):
    def test_sequences_that_count_and_that_do_not(self):
        one = Circuit(["x", "y"], [("a", "and", ["x", "y"]), ("b", "low", [])], [("p", 0, "a"), ("q", 1, "b")], ["a", "b"])
        two = Circuit(["x", "y"], [("b", "low", []), ("a", "and", ["x", "y"])], [("q", 1, "b"), ("p", 0, "a")], ["a", "b"])
        self.assertTrue(one == two)
        self.assertFalse(one != two)

    def test_each_part_counts(self):
        parts = (["x", "y"], [("a", "and", ["x", "y"])], [("p", 0, "a")], ["a", "p"])
        one = Circuit(*parts)
        for other in (
            Circuit(["y", "x"], *parts[1:]),
            Circuit(["x", "y"], [("a", "and", ["y", "x"])], parts[2], parts[3]),
            Circuit(["x", "y"], [("a", "or", ["x", "y"])], parts[2], parts[3]),
            Circuit(["x", "y"], parts[1] + [("b", "low", [])], parts[2], parts[3]),
            Circuit(parts[0], parts[1], [("p", 1, "a")], parts[3]),
            Circuit(parts[0], parts[1], [("p", 0, "p")], parts[3]),
            Circuit(*parts[:3], ["p", "a"]),
            Circuit(*parts[:3], ["a"]),
        ):
            self.assertFalse(one == other)
            self.assertTrue(one != other)

    def test_other_kinds(self):
        for value in (None, 1, repr(flip()), FLIP, list(FLIP), object()):
            self.assertFalse(flip() == value)
            self.assertTrue(flip() != value)


class WrongPartsTest(Case):
    def test_inputs(self):
        for value in (None, "x", {"x": 1}, 5, object()):
            self.refuses(InvalidInputs, [None], Circuit, value)
            self.refuses(InvalidInputs, [None], Circuit, inputs=value)
        for wrong in ("X", "", "1a", "a2345678901234", None, 0, True, ["x"], ("x",), "x"):
            self.refuses(InvalidInputs, [2], Circuit, ["x", "y", wrong, wrong])

    def test_gates(self):
        for value in (None, "x", {}, 5):
            self.refuses(InvalidGates, [None], Circuit, ["x"], value)
        fine = ("g", "not", ["x"])
        for wrong in (
            None, "g", 5, ["h", "not", ["x"]], ("h", "not"), ("h", "not", ["x"], 1), ("H", "not", ["x"]),
            (1, "not", ["x"]), (["h"], "not", ["x"]), ("h", "nand", ["x", "x"]), ("h", ["not"], ["x"]), ("h", None, []),
            ("h", "not", "x"), ("h", "not", []), ("h", "not", ["x", "x"]), ("h", "not", ["X"]), ("h", "not", [1]),
            ("h", "not", [["x"]]), ("h", "low", ["x"]), ("h", "pick", ["x", "x"]), ("h", "and", None), ("x", "low", []),
            ("g", "low", []), ("h", "not", {"x": 1}), ("h", "input", []), ("a2345678901234", "low", []),
        ):
            self.refuses(InvalidGates, [1], Circuit, ["x"], [fine, wrong, wrong])
            self.refuses(InvalidGates, [1], Circuit, ["x"], gates=(fine, wrong))

    def test_registers(self):
        for value in (None, "x", {}, 5):
            self.refuses(InvalidRegisters, [None], Circuit, ["x"], [], value)
        fine = ("q", 0, "x")
        for wrong in (
            None, "q", 5, ["r", 0, "x"], ("r", 0), ("r", 0, "x", 1), ("R", 0, "x"), (1, 0, "x"), ("r", True, "x"),
            ("r", False, "x"), ("r", 2, "x"), ("r", None, "x"), ("r", 0, ["x"]), ("r", 0, "X"), ("r", 0, None),
            ("x", 0, "x"), ("g", 0, "x"), ("q", 0, "x"), ("r", "0", "x"),
        ):
            self.refuses(InvalidRegisters, [1], Circuit, ["x"], [("g", "low", [])], [fine, wrong, wrong])
            self.refuses(InvalidRegisters, [1], Circuit, ["x"], [("g", "low", [])], registers=(fine, wrong))

    def test_sources(self):
        gates = [("a", "and", ["x", "u"]), ("b", "not", ["v"])]
        self.refuses(UnknownWire, ["u"], Circuit, ["x"], gates, [("q", 0, "w")])
        self.refuses(UnknownWire, ["v"], Circuit, ["x"], list(reversed(gates)), [("q", 0, "w")])
        self.refuses(UnknownWire, ["w"], Circuit, ["x"], [], [("z", 0, "w"), ("q", 0, "v")])
        self.refuses(UnknownWire, ["v"], Circuit, ["x"], [], [("z", 0, "z"), ("q", 0, "v")], ["z", "z"])

    def test_outputs(self):
        for value in (None, "x", {}, 5):
            self.refuses(InvalidOutputs, [None], Circuit, ["x"], [], [], value)
        for wrong in ("y", "", "X", None, 0, True, ["x"], ("x",)):
            self.refuses(InvalidOutputs, [1], Circuit, ["x"], [], [], ["x", wrong, wrong])
            self.refuses(InvalidOutputs, [1], Circuit, ["x"], outputs=("x", wrong))

    def test_rings(self):
        self.refuses(GateRing, ["g"], Circuit, [], [("g", "not", ["g"])])
        gates = [("c", "not", ["b"]), ("b", "not", ["c"]), ("a", "not", ["b"]), ("z", "and", ["z", "a"])]
        self.refuses(GateRing, ["b"], Circuit, [], gates)
        # m stands between two rings, on none of them
        gates = [("p", "not", ["q"]), ("q", "not", ["p"]), ("m", "not", ["p"]), ("y", "and", ["m", "z"]), ("z", "not", ["y"])]
        self.refuses(GateRing, ["p"], Circuit, [], gates)
        self.refuses(GateRing, ["a"], Circuit, ["x"], [("a", "pick", ["x", "x", "c"]), ("b", "or", ["a", "a"]), ("c", "not", ["b"])])

    def test_the_least_gate_on_a_ring_against_a_plain_search(self):
        for seed in range(60):
            chance = random.Random(seed)
            names = numbered("g", 7)
            gates = [(name, "or", [chance.choice(names + ["x"] * 4) for _ in range(2)]) for name in names]
            leads = {(name, source) for name, _, sources in gates for source in sources}
            for via, one, other in itertools.product(names, names, names):
                if (one, via) in leads and (via, other) in leads:
                    leads.add((one, other))
            rings = [name for name in names if (name, name) in leads]
            if rings:
                self.refuses(GateRing, [min(rings)], Circuit, ["x"], gates)
            else:
                self.assertEqual(len(Circuit(["x"], gates)), 7)

    def test_too_many(self):
        self.refuses(TooMany, ["inputs", 8], Circuit, numbered("i", 9))
        gates = [("g%d" % k, "low", []) for k in range(201)]
        self.refuses(TooMany, ["gates", 200], Circuit, [], gates)
        registers = [("r%d" % k, 0, "r0") for k in range(9)]
        self.refuses(TooMany, ["registers", 8], Circuit, [], [], registers)
        self.refuses(TooMany, ["outputs", 8], Circuit, ["x"], [], [], ["x"] * 9)
        self.refuses(TooMany, ["inputs", 8], Circuit, numbered("i", 9), gates, registers, ["i0"] * 9)
        self.refuses(TooMany, ["gates", 200], Circuit, numbered("i", 8), gates, registers, ["i0"] * 9)
        self.refuses(TooMany, ["registers", 8], Circuit, numbered("i", 8), gates[:200], registers, ["i0"] * 9)

    def test_the_error_that_is_listed_first(self):
        wrong = [["x", "x"], [("g", "no", [])], [("q", 2, "x")], ["u"]]
        ring = [("g", "not", ["g"])]
        self.refuses(InvalidInputs, [1], Circuit, *wrong)
        self.refuses(InvalidGates, [0], Circuit, ["x"], *wrong[1:])
        self.refuses(InvalidRegisters, [0], Circuit, ["x"], [("g", "not", ["u"])], *wrong[2:])
        self.refuses(UnknownWire, ["u"], Circuit, ["x"], [("g", "not", ["u"])], [], ["v"])
        self.refuses(InvalidOutputs, [0], Circuit, ["x"], ring, [], ["v"])
        self.refuses(InvalidOutputs, [None], Circuit, ["x"], ring, [], None)
        self.refuses(GateRing, ["g"], Circuit, numbered("i", 9), ring, [], ["g"] * 9)
        self.refuses(InvalidGates, [200], Circuit, [], [("g%d" % k, "low", []) for k in range(200)] + [("g0", "low", [])])


if __name__ == "__main__":
    unittest.main()
