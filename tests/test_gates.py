"""Point [24], the functions of gates, and of point [4] "Equal or parted"."""

import itertools
import random
import unittest

from tests.helping import Case, full_circuit, letters_of, naive_least, plain_says, random_parts
from wirewords.circuits import Circuit
from wirewords.errors import InvalidFault, InvalidOrder, OtherVariables, TooMany, UnknownWire
from wirewords.gates import (
    are_equal,
    classes,
    fixed,
    gates_of,
    is_table_of,
    next_tables,
    parting_of,
    step_parting,
    table_of,
    without_copies,
)
from wirewords.runs import values
from wirewords.tables import Table, constant, variable

TWO = Circuit(["x", "y"], [("a", "and", ["x", "y"]), ("b", "and", ["y", "a"]), ("c", "xor", ["a", "b"])],
              [("q", 0, "b")], ["b", "c"])
FLIP = Circuit(["x"], [("n", "xor", ["x", "q"])], [("q", 0, "n")], ["n"])
NO_WIRES = ("z", "", None, 0, True, ["x"], ("x",), {}, object())


def some_parts():
    for seed in range(40):
        yield random_parts(seed, inputs=seed % 4, gates=seed % 8, registers=seed % 3, outputs=seed % 4)


def variables(parts):
    return parts[0] + sorted(row[0] for row in parts[2])


def truths(parts, order, stuck=None):
    """For each wire the dict from the letters of an order to what it says."""
    told = {}
    for letter in letters_of(len(order)):
        bits = dict(zip(order, letter))
        state = [bits[name] for name in sorted(row[0] for row in parts[2])]
        said = plain_says(parts, state, [bits[name] for name in parts[0]], stuck)
        for wire in said:
            told.setdefault(wire, {})[letter] = said[wire]
    return told


def steps(made):
    """All tuples of a state and a letter, sorted."""
    return list(itertools.product(letters_of(len(made.first())), letters_of(len(made.inputs()))))


def crowded(last):
    """Gates whose table has 510 rows in the circuit's own order; the last gate is told by the caller."""
    inputs = ["i%d" % k for k in range(8)]
    registers = [("r%d" % k, 0, "i%d" % k) for k in range(8)]
    gates = [("p%d" % k, "and", ["i%d" % k, "r%d" % k]) for k in range(8)]
    gates += [("s%d" % k, "or", ["p%d" % k, "s%d" % (k - 1) if k > 1 else "p0"]) for k in range(1, 8)]
    return Circuit(inputs, gates + [("none", "low", [])] + last, registers, ["i0"])


class TableOfTest(Case):
    def test_the_document(self):
        self.assertEqual(table_of(TWO, "b"), Table(["x", "y", "q"], [("y", 0, 1), ("x", 0, 2)], 3))
        self.assertEqual(table_of(circuit=TWO, wire="q", order=["q", "y", "x"], stuck=None), variable(["q", "y", "x"], "q"))

    def test_all_wires_stuck_or_not_in_any_order(self):
        for seed, parts in enumerate(some_parts()):
            made = Circuit(*parts)
            order = variables(parts)
            chosen = list(order)
            random.Random(seed).shuffle(chosen)
            for stuck in [None] + [(wire, seed % 2) for wire in made.wires()]:
                for each, passed in ((order, None), (chosen, chosen), (chosen, tuple(chosen))):
                    truth = truths(parts, each, stuck)
                    for wire in made.wires():
                        told = table_of(made, wire, passed, stuck)
                        self.assertEqual((told.rows(), told.root), naive_least(each, truth[wire]))
                        self.assertEqual(told.order(), each)
        empty = Circuit([], [("h", "high", [])])
        self.assertEqual([table_of(empty, "h"), table_of(empty, "h", [])], [constant([], 1)] * 2)

    def test_errors_in_sequence(self):
        for value in NO_WIRES:
            self.refuses_value(UnknownWire, value, table_of, TWO, value, 5, 6)
        for value in ("xyq", 5, [], ["x", "y"], ["x", "y", "q", "a"], ["x", "y", "y"], ["x", "y", "a"], ["x", "y", None],
                      {"x": 1, "y": 2, "q": 3}, ["x", "y", ["q"]], True):
            self.refuses_value(InvalidOrder, value, table_of, TWO, "b", value, 6)
        for value in ("b", ("b", 2), ("b", True), ["b", 1], ("z", 1), (None, 1), 0, False, ()):
            self.refuses_value(InvalidFault, value, table_of, TWO, "b", None, value)
        self.refuses_value(InvalidFault, 5, table_of, crowded([]), "s7", None, 5)

    def test_too_many_rows(self):
        made = crowded([("u", "and", ["s7", "none"])])
        good = [name for k in range(8) for name in ("i%d" % k, "r%d" % k)]
        self.assertEqual(len(table_of(made, "s6")), 2 * (2 ** 7 - 1))
        for wire in ("s7", "u"):
            self.refuses(TooMany, ["rows", 300], table_of, made, wire)
        # behind a stuck gate the ones ahead of it still count
        self.refuses(TooMany, ["rows", 300], table_of, made, "u", None, ("u", 0))
        self.assertEqual(table_of(made, "u", None, ("s7", 1)).rows(), [])
        self.assertEqual(table_of(made, "u", good), constant(good, 0))
        self.assertEqual(len(table_of(made, "s7", good)), 16)
        # through a register nothing counts
        far = Circuit(made.inputs(), made.gates(), made.registers()[:7] + [("r7", 0, "s7")])
        self.assertEqual(len(table_of(far, "r7")), 1)
        self.refuses(TooMany, ["rows", 300], next_tables, far)
        self.assertEqual(len(next_tables(made)), 8)


    def test_just_as_many_rows_as_are_let(self):
        made = Circuit(*full_circuit())
        self.assertEqual(len(table_of(made, "full")), 300)
        self.refuses(TooMany, ["rows", 300], table_of, made, "t")
        self.assertIs(are_equal(made, "full", "full"), True)
        self.refuses(TooMany, ["rows", 300], fixed, made)


class NextTablesTest(Case):
    def test_all(self):
        for parts in some_parts():
            made = Circuit(*parts)
            told = next_tables(circuit=made)
            self.assertEqual(told, {name: table_of(made, source) for name, _, source in parts[2]})
            self.assertEqual(list(told), sorted(told))


class IsTableOfTest(Case):
    def test_tables_least_or_not_in_any_order(self):
        self.assertIs(is_table_of(TWO, "b", table_of(TWO, "a")), True)
        self.assertIs(is_table_of(circuit=TWO, wire="b", value=table_of(TWO, "b", ["q", "y", "x"])), True)
        odd = Table(["y", "q", "x"], [("x", 0, 1), ("x", 0, 1), ("q", 2, 3), ("y", 0, 4)], 5)
        self.assertIs(odd.is_least(), False)
        self.assertIs(is_table_of(TWO, "b", odd), True)
        self.assertIs(is_table_of(TWO, "x", odd), False)
        self.assertIs(is_table_of(TWO, "b", ~odd), False)

    def test_any_value(self):
        for value in (None, 5, "b", [], repr(table_of(TWO, "b")), table_of(TWO, "b").rows(), TWO, object(),
                      Table(["x", "y"], [("y", 0, 1), ("x", 0, 2)], 3), Table([], [], 0),
                      Table(["x", "y", "p"], [("y", 0, 1), ("x", 0, 2)], 3)):
            self.assertIs(is_table_of(TWO, "b", value), False)

    def test_errors(self):
        for value in NO_WIRES:
            self.refuses_value(UnknownWire, value, is_table_of, TWO, value, None)
        made = crowded([])
        good = [name for k in range(8) for name in ("i%d" % k, "r%d" % k)]
        self.assertIs(is_table_of(made, "s7", table_of(made, "s7", good)), True)
        self.assertIs(is_table_of(made, "s7", 5), False)
        self.assertIs(is_table_of(made, "s7", Table(["i0"], [], 0)), False)
        own = made.inputs() + [row[0] for row in made.registers()]
        self.refuses(TooMany, ["rows", 300], is_table_of, made, "s7", constant(own, 0))


class EqualOrPartedTest(Case):
    def test_one_of_both(self):
        for parts in some_parts():
            made = Circuit(*parts)
            said = {at: values(made, *at) for at in steps(made)}
            for wire, second in itertools.product(made.wires(), made.wires()):
                found = [at for at in sorted(said) if said[at][wire] != said[at][second]]
                self.assertIs(are_equal(made, wire, second), not found)
                self.assertEqual(parting_of(made, wire, second), found[0] if found else None)
                if not found:
                    self.assertIs(is_table_of(made, second, table_of(made, wire)), True)

    def test_the_document(self):
        self.assertIs(are_equal(circuit=TWO, wire="a", second="b"), True)
        self.assertEqual(parting_of(circuit=TWO, wire="a", second="x"), ((0,), (1, 0)))
        self.assertIsNone(parting_of(TWO, "a", "b"))

    def test_the_state_is_compared_first(self):
        made = Circuit(["x"], [("g", "or", ["x", "q"]), ("none", "low", [])], [("q", 0, "q")])
        self.assertEqual(parting_of(made, "g", "none"), ((0,), (1,)))
        made = Circuit(["x"], [("g", "xor", ["x", "q"]), ("h", "and", ["g", "x"]), ("none", "low", [])], [("q", 1, "q")])
        self.assertEqual(parting_of(made, "h", "none"), ((0,), (1,)))

    def test_classes_and_fixed(self):
        self.assertEqual(classes(TWO), [["a", "b"], ["c"], ["q"], ["x"], ["y"]])
        self.assertEqual(fixed(TWO), {"c": 0})
        for parts in some_parts():
            made = Circuit(*parts)
            said = [values(made, *at) for at in steps(made)]
            rows = {}
            for wire in made.wires():
                rows.setdefault(tuple(each[wire] for each in said), []).append(wire)
            told = classes(circuit=made)
            self.assertEqual(told, sorted(rows.values()))
            self.unlike_lists(told)
            bits = {wire: said[0][wire] for wire in made.wires() if len({each[wire] for each in said}) == 1}
            self.assertEqual(fixed(circuit=made), bits)
            self.assertEqual(list(fixed(made)), sorted(bits))

    def test_unknown_wires(self):
        for call in (are_equal, parting_of):
            for value in NO_WIRES:
                self.refuses_value(UnknownWire, value, call, TWO, value, "none")
                self.refuses_value(UnknownWire, value, call, TWO, "a", value)

    def test_too_many_rows(self):
        made = crowded([("u", "and", ["s7", "none"])])
        for call in (are_equal, parting_of):
            for pair in (("u", "none"), ("none", "u"), ("s7", "s7")):
                self.refuses(TooMany, ["rows", 300], call, made, *pair)
        self.assertIs(are_equal(made, "s1", "s2"), False)
        for call in (classes, fixed, without_copies):
            self.refuses(TooMany, ["rows", 300], call, made)


class StepPartingTest(Case):
    def test_against_all_steps(self):
        for seed, parts in enumerate(some_parts()):
            chance = random.Random(seed)
            one = Circuit(*parts)
            for _ in range(4):
                gates = [(name, "xor" if kind == "or" and chance.random() < 0.5 else kind, sources)
                         for name, kind, sources in parts[1]]
                other = Circuit(parts[0], gates, parts[2], parts[3])
                ends = [parts[3] + [source for _, _, source in sorted(parts[2])]] * 2
                found = [
                    at for at in steps(one)
                    if [values(one, *at)[wire] for wire in ends[0]] != [values(other, *at)[wire] for wire in ends[1]]
                ]
                self.assertEqual(step_parting(one, other), min(found) if found else None)

    def test_outputs_and_next_states_by_other_wires(self):
        one = Circuit(["x"], [("g", "not", ["q"])], [("q", 0, "g")], ["g"])
        self.assertEqual(step_parting(one, Circuit(["x"], [], [("q", 0, "q")], ["x"])), ((0,), (0,)))
        self.assertIsNone(step_parting(one=one, other=Circuit(["x"], [("h", "not", ["q"])], [("q", 0, "h")], ["h"])))
        self.assertEqual(step_parting(one, Circuit(["x"], [("g", "not", ["q"])], [("q", 0, "x")], ["g"])), ((0,), (0,)))
        none = Circuit(["x"])
        self.assertIsNone(step_parting(none, Circuit(["x"], [("g", "not", ["x"])])))

    def test_other_variables(self):
        one = Circuit(["x", "y"], [], [("p", 0, "x"), ("q", 1, "y")], ["x"])
        for other in (
            Circuit(["y", "x"], [], [("p", 0, "x"), ("q", 1, "y")], ["x"]),
            Circuit(["x"], [], [("p", 0, "x"), ("q", 1, "x")], ["x"]),
            Circuit(["x", "y"], [], [("p", 0, "x"), ("q", 0, "y")], ["x"]),
            Circuit(["x", "y"], [], [("p", 0, "x"), ("r", 1, "y")], ["x"]),
            Circuit(["x", "y"], [], [("p", 0, "x")], ["x"]),
            Circuit(["x", "y"], [], [("p", 0, "x"), ("q", 1, "y")], []),
            Circuit(["x", "y"], [], [("p", 0, "x"), ("q", 1, "y")], ["x", "x"]),
        ):
            error = self.refuses(OtherVariables, [one, other], step_parting, one, other)
            self.assertIs(error.one, one)
            self.assertIs(error.other, other)
        self.assertIsNone(step_parting(one, Circuit(["x", "y"], [], [("q", 1, "y"), ("p", 0, "x")], ["x"])))

    def test_too_many_rows(self):
        made = crowded([("u", "and", ["s7", "none"])])
        self.assertIsNone(step_parting(made, made))
        hung = Circuit(made.inputs(), made.gates(), made.registers(), ["u"])
        self.refuses(TooMany, ["rows", 300], step_parting, hung, hung)
        self.refuses(TooMany, ["rows", 300], step_parting, made, hung)
        self.refuses(TooMany, ["rows", 300], step_parting, hung, made)


class GatesOfTest(Case):
    def test_it_says_what_the_table_says(self):
        for parts in some_parts():
            made = Circuit(*parts)
            for wire in made.wires():
                self.check(table_of(made, wire))
        for table in (constant([], 0), constant(["x"], 1), variable(["g0", "g1", "low"], "g1"),
                      Table(["x", "y"], [("y", 0, 1), ("y", 0, 1), ("x", 2, 3)], 4)):
            self.check(table)

    def check(self, table):
        told = gates_of(table=table)
        self.assertEqual([told.inputs(), told.registers(), len(told.outputs())], [table.order(), [], 1])
        for letter in letters_of(len(table.order())):
            self.assertEqual(values(told, (), letter)[told.outputs()[0]], table.says(letter))
        self.assertEqual(gates_of(table), told)

    def test_eight_variables_at_random_and_nine(self):
        order = ["v%d" % k for k in range(8)]
        chance = random.Random(5)
        self.check(Table(order, *naive_least(order, {letter: chance.randrange(2) for letter in letters_of(8)})))
        self.refuses(TooMany, ["inputs", 8], gates_of, constant(order + ["w"], 0))


class WithoutCopiesTest(Case):
    def test_the_document(self):
        self.assertEqual(without_copies(TWO), Circuit(
            ["x", "y"], [("a", "and", ["x", "y"]), ("c", "xor", ["a", "a"])], [("q", 0, "a")], ["a", "c"]))

    def test_inputs_and_registers_come_first(self):
        made = Circuit(
            ["y", "x"],
            [("a", "not", ["b"]), ("b", "not", ["x"]), ("c", "not", ["d"]), ("d", "not", ["q"]), ("e", "or", ["a", "c"])],
            [("q", 0, "c"), ("p", 1, "e")],
            ["a", "c", "e", "p"],
        )
        self.assertEqual(without_copies(circuit=made), Circuit(
            ["y", "x"], [("e", "or", ["x", "q"])], [("p", 1, "e"), ("q", 0, "q")], ["x", "q", "e", "p"]))

    def test_the_first_in_the_sequence_not_by_name(self):
        made = Circuit(["x", "y"], [("a", "and", ["n", "n"]), ("m", "not", ["x"]), ("n", "and", ["m", "y"])], [], ["a"])
        self.assertEqual(without_copies(made), Circuit(["x", "y"], [("m", "not", ["x"]), ("n", "and", ["m", "y"])], [], ["n"]))
        made = Circuit([], [("a", "low", []), ("b", "low", []), ("c", "high", [])], [("q", 0, "b")])
        self.assertEqual(without_copies(made), Circuit([], [("a", "low", [])], [("q", 0, "a")]))

    def test_against_the_words_of_the_document(self):
        for parts in some_parts():
            made = Circuit(*parts)
            told = without_copies(made)
            self.assertIsNone(step_parting(made, told))
            sequence = variables(parts) + made.sequence()
            first = {wire: next(one for one in sequence if are_equal(made, one, wire)) for wire in sequence}
            rows = {name: (kind, [first[wire] for wire in sources]) for name, kind, sources in parts[1]}
            registers = [(name, bit, first[source]) for name, bit, source in parts[2]]
            outputs = [first[wire] for wire in parts[3]]
            hung = set(outputs) | {row[2] for row in registers}
            for _ in rows:
                hung |= {source for name in rows if name in hung for source in rows[name][1]}
            gates = [(name, *rows[name]) for name in rows if name in hung]
            self.assertEqual(told, Circuit(parts[0], gates, registers, outputs))


if __name__ == "__main__":
    unittest.main()
