"""Point [16], and the functions of made."""

import random
import unittest

from tests.helping import Case, random_parts
from wirewords.circuits import Circuit
from wirewords.errors import (
    GateRing,
    InvalidBit,
    InvalidKind,
    InvalidName,
    InvalidNames,
    InvalidOutputs,
    InvalidSources,
    OtherWidth,
    TooLong,
    TooMany,
    UnknownWire,
)
from wirewords.made import (
    behind,
    beside,
    joined,
    marked,
    renamed,
    trimmed,
    with_first,
    with_gate,
    with_outputs,
)
from wirewords.runs import answer

FLIP = Circuit(["x"], [("n", "xor", ["x", "q"])], [("q", 0, "n")], ["n"])
LONG = "a23456789012"
NO_WIRES = ("z", "", None, 0, True, ["x"], ("x",), {}, object())


def numbered(sign, many):
    return ["%s%d" % (sign, k) for k in range(many)]


def words_of(seed, width, many=6):
    chance = random.Random(seed)
    return [tuple(chance.randrange(2) for _ in range(width)) for _ in range(many)]


class MarkedTest(Case):
    def test_all_names_get_the_sign(self):
        told = marked(FLIP, "z")
        self.assertEqual(told, Circuit(["zx"], [("zn", "xor", ["zx", "zq"])], [("zq", 0, "zn")], ["zn"]))
        self.assertEqual(marked(circuit=FLIP, sign="z"), told)
        self.assertEqual(marked(Circuit([]), "a"), Circuit([]))
        self.assertEqual(marked(Circuit(["b3456789012"]), "a").inputs(), ["ab3456789012"])

    def test_wrong_signs(self):
        for value in ("", "ab", "A", "1", "-", None, 0, True, ["a"], ("a",), object()):
            self.refuses_value(InvalidName, value, marked, FLIP, value)
            self.refuses_value(InvalidName, value, marked, Circuit([LONG]), sign=value)

    def test_too_long(self):
        made = Circuit(["c23456789012", "e"], [("b23456789012", "low", [])], [("d23456789012", 0, "e")])
        self.refuses(TooLong, ["zb23456789012"], marked, made, "z")


class BesideTest(Case):
    def test_the_parts(self):
        other = Circuit(["y"], [("g", "not", ["y"])], [("p", 1, "g")], ["p", "y"])
        self.assertEqual(beside(FLIP, other), Circuit(
            ["ax", "by"], [("an", "xor", ["ax", "aq"]), ("bg", "not", ["by"])],
            [("aq", 0, "an"), ("bp", 1, "bg")], ["an", "bp", "by"]))
        self.assertEqual(beside(one=FLIP, other=FLIP).inputs(), ["ax", "bx"])
        self.assertEqual(beside(Circuit([]), Circuit([])), Circuit([]))

    def test_answers(self):
        for seed in range(15):
            one = Circuit(*random_parts(seed, inputs=2))
            other = Circuit(*random_parts(seed + 100, inputs=1, outputs=3))
            word, second = words_of(seed, 2), words_of(seed + 1, 1)
            both = answer(beside(one, other), [x + y for x, y in zip(word, second)])
            self.assertEqual(both, [x + y for x, y in zip(answer(one, word), answer(other, second))])

    def test_too_long_then_too_many(self):
        names = numbered("i", 5)
        self.refuses(TooMany, ["inputs", 8], beside, Circuit(names), Circuit(names))
        self.refuses(TooLong, ["b" + LONG], beside, Circuit(names), Circuit(names[:4] + [LONG]))
        self.refuses(TooLong, ["a" + LONG], beside, Circuit(names[:4] + [LONG]), Circuit([LONG] + names[:4]))
        gates = [(name, "low", []) for name in numbered("g", 101)]
        half = Circuit([], gates[:100])
        self.assertEqual(len(beside(half, half)), 200)
        self.refuses(TooMany, ["gates", 200], beside, Circuit([], gates), half)
        rows = [(name, 0, name) for name in numbered("r", 5)]
        self.assertEqual(len(beside(Circuit([], [], rows[:4]), Circuit([], [], rows[:4])).first()), 8)
        self.refuses(TooMany, ["registers", 8], beside, Circuit([], [], rows), Circuit([], [], rows[:4]))
        outs = Circuit(["x"], [], [], ["x"] * 5)
        self.refuses(TooMany, ["outputs", 8], beside, outs, outs)
        self.refuses(TooMany, ["inputs", 8], beside, Circuit(names, gates, rows), Circuit(names, gates, rows))


class BehindTest(Case):
    def test_the_counter_behind_itself(self):
        two = behind(FLIP, FLIP)
        self.assertEqual(two, Circuit(
            ["ax"], [("an", "xor", ["ax", "aq"]), ("bn", "xor", ["an", "bq"])],
            [("aq", 0, "an"), ("bq", 0, "bn")], ["bn"]))
        self.assertEqual(answer(two, [(1,), (0,), (0,)]), [(1,), (0,), (1,)])
        self.assertEqual(behind(one=FLIP, other=FLIP), two)

    def test_inputs_that_are_outputs_or_read_by_registers(self):
        one = Circuit(["u", "v"], [], [], ["v", "v", "u"])
        other = Circuit(["x", "y", "z"], [("g", "and", ["y", "z"])], [("q", 1, "x")], ["z", "q", "g", "x"])
        self.assertEqual(behind(one, other), Circuit(
            ["au", "av"], [("bg", "and", ["av", "au"])], [("bq", 1, "av")], ["au", "bq", "bg", "av"]))

    def test_answers(self):
        for seed in range(20):
            one = Circuit(*random_parts(seed, inputs=2, outputs=3))
            other = Circuit(*random_parts(seed + 50, inputs=3, outputs=2))
            word = words_of(seed, 2)
            self.assertEqual(answer(behind(one, other), word), answer(other, answer(one, word)))

    def test_errors_in_sequence(self):
        self.refuses(OtherWidth, [1, 2], behind, FLIP, Circuit(["x", "y"]))
        self.refuses(OtherWidth, [1, 0], behind, FLIP, Circuit([]))
        self.refuses(OtherWidth, [0, 1], behind, Circuit([LONG]), Circuit(["x"]))
        # the input of the other one goes, and its name counts all the same
        self.refuses(TooLong, ["b" + LONG], behind, FLIP, Circuit([LONG]))
        self.refuses(TooLong, ["a" + LONG], behind, Circuit([LONG], [], [], [LONG]), Circuit([LONG]))
        self.assertEqual(behind(Circuit([], [], [("q", 0, "q")]), Circuit([])).first(), (0,))
        gates = [(name, "low", []) for name in numbered("g", 101)]
        rows = [(name, 0, name) for name in numbered("r", 5)]
        self.refuses(TooMany, ["gates", 200], behind, Circuit([], gates, rows), Circuit([], gates, rows))
        self.refuses(TooMany, ["registers", 8], behind, Circuit([], [], rows), Circuit([], [], rows))
        wide = Circuit(numbered("i", 8), [], [], numbered("i", 8))
        self.assertEqual(len(behind(wide, wide).inputs()), 8)


class JoinedTest(Case):
    def test_sources_and_outputs(self):
        made = Circuit(["x", "y"], [("g", "and", ["x", "y"])], [("q", 0, "x")], ["x", "g", "y"])
        self.assertEqual(joined(made, "x", "y"), Circuit(["y"], [("g", "and", ["y", "y"])], [("q", 0, "y")], ["y", "g", "y"]))
        self.assertEqual(joined(made, "y", "q"), Circuit(["x"], [("g", "and", ["x", "q"])], [("q", 0, "x")], ["x", "g", "q"]))
        self.assertEqual(joined(circuit=FLIP, name="x", wire="q").gates(), [("n", "xor", ["q", "q"])])
        self.assertEqual(joined(Circuit(["x"], [], [("q", 0, "x")]), "x", "q").registers(), [("q", 0, "q")])

    def test_wrong_names(self):
        for value in NO_WIRES + ("n", "q"):
            self.refuses_value(UnknownWire, value, joined, FLIP, value, "n")
            self.refuses_value(UnknownWire, value, joined, FLIP, value, "none")
        for value in NO_WIRES + ("x",):
            self.refuses_value(UnknownWire, value, joined, FLIP, "x", value)

    def test_an_input_that_nothing_reads(self):
        made = Circuit(["x", "y"])
        self.refuses(UnknownWire, ["x"], joined, made, "x", "x")
        self.assertEqual(joined(made, "x", "y"), Circuit(["y"]))

    def test_rings(self):
        self.refuses(GateRing, ["n"], joined, FLIP, "x", "n")
        chain = Circuit(["x"], [("c", "not", ["x"]), ("b", "not", ["c"]), ("a", "not", ["b"]), ("z", "not", ["x"])])
        self.refuses(GateRing, ["b"], joined, chain, "x", "b")
        self.refuses(GateRing, ["z"], joined, chain, "x", "z")


class RenamedTest(Case):
    def test_names_everywhere(self):
        told = renamed(FLIP, {"x": "in0", "q": "a"})
        self.assertEqual(told, Circuit(["in0"], [("n", "xor", ["in0", "a"])], [("a", 0, "n")], ["n"]))
        self.assertEqual(renamed(circuit=FLIP, names={}), FLIP)
        self.assertEqual(renamed(FLIP, {"x": "x"}), FLIP)

    def test_names_may_be_exchanged(self):
        told = renamed(FLIP, {"x": "q", "q": "n", "n": "x"})
        self.assertEqual(told, Circuit(["q"], [("x", "xor", ["q", "n"])], [("n", 0, "x")], ["x"]))

    def test_wrong_names(self):
        for value in (
            None, [], (), "x", 5, [("x", "y")], {"z": "y"}, {"x": "Y"}, {"x": ""}, {"x": 1}, {"x": ["y"]}, {"x": "n"},
            {"x": "y", "q": "y"}, {1: "y"}, {("x",): "y"}, {None: "y"}, {True: "y"}, {"x": LONG + "3"}, {"": "y"},
        ):
            self.refuses_value(InvalidNames, value, renamed, FLIP, value)
        self.assertEqual(renamed(FLIP, {"x": LONG}).inputs(), [LONG])

    def test_the_dict_stays(self):
        names = {"x": "y"}
        renamed(FLIP, names)
        self.assertEqual(names, {"x": "y"})


class WithGateTest(Case):
    def test_a_gate_exchanged(self):
        told = with_gate(FLIP, "n", "pick", ["q", "x", "x"])
        self.assertEqual(told, Circuit(["x"], [("n", "pick", ["q", "x", "x"])], [("q", 0, "n")], ["n"]))
        self.assertEqual(with_gate(circuit=FLIP, name="n", kind="low", sources=()).gates(), [("n", "low", [])])
        self.assertEqual(FLIP.gates(), [("n", "xor", ["x", "q"])])

    def test_errors_in_sequence(self):
        for value in NO_WIRES + ("x", "q"):
            self.refuses_value(UnknownWire, value, with_gate, FLIP, value, "none", None)
        for value in ("none", "", None, 1, ["and"], ("and",), "input", "register", True):
            self.refuses_value(InvalidKind, value, with_gate, FLIP, "n", value, None)
        for value in (None, "xq", [], ["x"], ["x", "x", "x"], ["x", "z"], ["x", None], ["x", ["q"]], {"x": 1, "q": 2}, 2):
            self.refuses_value(InvalidSources, value, with_gate, FLIP, "n", "and", value)
        self.refuses(GateRing, ["n"], with_gate, FLIP, "n", "and", ["x", "n"])
        chain = Circuit(["x"], [("b", "not", ["x"]), ("a", "not", ["b"]), ("c", "not", ["a"])])
        self.refuses(GateRing, ["a"], with_gate, chain, "b", "not", ["c"])
        self.refuses(GateRing, ["a"], with_gate, chain, "b", "and", ("x", "a"))


class WithFirstTest(Case):
    def test_a_first_bit(self):
        two = Circuit([], [], [("p", 0, "q"), ("q", 0, "p")])
        self.assertEqual(with_first(two, "q", 1).registers(), [("p", 0, "q"), ("q", 1, "p")])
        self.assertEqual(with_first(circuit=two, name="p", bit=0), two)

    def test_errors_in_sequence(self):
        for value in NO_WIRES + ("x", "n"):
            self.refuses_value(UnknownWire, value, with_first, FLIP, value, 7)
        for value in (2, -1, True, False, None, "1", [1], (1,)):
            self.refuses_value(InvalidBit, value, with_first, FLIP, "q", value)


class WithOutputsTest(Case):
    def test_outputs(self):
        self.assertEqual(with_outputs(FLIP, ["q", "x", "q"]).outputs(), ["q", "x", "q"])
        self.assertEqual(with_outputs(circuit=FLIP, outputs=()).outputs(), [])
        self.assertEqual(len(with_outputs(FLIP, ["x"] * 8).outputs()), 8)
        self.assertEqual(FLIP.outputs(), ["n"])

    def test_errors(self):
        for value in (None, "x", {"x": 1}, 5):
            self.refuses(InvalidOutputs, [None], with_outputs, FLIP, value)
        for value in NO_WIRES:
            self.refuses(InvalidOutputs, [1], with_outputs, FLIP, ["x", value, value])
        self.refuses(TooMany, ["outputs", 8], with_outputs, FLIP, ["x"] * 9)
        self.refuses(InvalidOutputs, [8], with_outputs, FLIP, ["x"] * 8 + ["z"])


class TrimmedTest(Case):
    def test_what_no_output_hangs_on_goes(self):
        made = Circuit(
            ["x", "y"],
            [("a", "not", ["q"]), ("b", "not", ["a"]), ("c", "not", ["p"]), ("d", "low", [])],
            [("p", 0, "p"), ("q", 1, "d"), ("r", 0, "c")],
            ["a"],
        )
        self.assertEqual(trimmed(made), Circuit(
            ["x", "y"], [("a", "not", ["q"]), ("d", "low", [])], [("q", 1, "d")], ["a"]))
        self.assertEqual(trimmed(circuit=FLIP), FLIP)
        self.assertEqual(trimmed(with_outputs(made, [])), Circuit(["x", "y"]))
        self.assertEqual(trimmed(with_outputs(made, ["y"])), Circuit(["x", "y"], [], [], ["y"]))

    def test_answers_stay(self):
        for seed in range(20):
            made = Circuit(*random_parts(seed, gates=8, outputs=1))
            told = trimmed(made)
            self.assertEqual(answer(told, words_of(seed, 3)), answer(made, words_of(seed, 3)))
            self.assertEqual(trimmed(told), told)
            hung = {wire for end in made.outputs() for wire in made.cone(end)} | set(made.inputs())
            self.assertEqual(set(told.wires()), hung)


if __name__ == "__main__":
    unittest.main()
