"""Points [21] to [23], and the functions of tables."""

import unittest

from tests.helping import Case, full_circuit, letters_of, naive_least, naive_says, random_rows
from wirewords.errors import (
    InvalidBit,
    InvalidLetter,
    InvalidOrder,
    InvalidPlace,
    InvalidRows,
    OtherOrders,
    TooMany,
    UnknownVariable,
)
from wirewords.tables import (
    Table,
    can_be_exchanged,
    constant,
    every,
    hangs_on,
    held,
    how_many,
    least_letter,
    parting,
    rises,
    some,
    variable,
)

XYZ = ["x", "y", "z"]
X, Y, Z = [variable(XYZ, name) for name in XYZ]
PICK = X & Y | ~X & Z
SIXTEEN = ["v%02d" % k for k in range(16)]
WRONG_ORDERS = (
    None, "x", 5, {"x": 1}, ["x", "x"], ["X"], [""], [1], [None], [["x"]], [("x",)], ["x", True], ["a2345678901234"],
    SIXTEEN + ["w"], object(),
)
NO_VARIABLES = ("w", "", None, 0, True, ["x"], ("x",), {}, object())


def truth_of(table):
    """What a table says at all letters, by its rows alone."""
    order, rows, root = table.order(), table.rows(), table.root
    return {letter: naive_says(order, rows, root, letter) for letter in letters_of(len(order))}


def table_of_truth(order, truth):
    rows, root = naive_least(order, truth)
    return Table(order, rows, root)


def tables(many=60):
    """Tables at random, in orders of none to five variables."""
    for seed in range(many):
        order = XYZ[::-1] + ["b", "a"]
        order = order[:seed % 6]
        rows, root = random_rows(seed, order, seed % 9)
        yield Table(order, rows, root)


def with_bit(letter, at, bit):
    return letter[:at] + (bit,) + letter[at + 1:]


def wide(order):
    """A table of very many rows: pairs in a bad order."""
    half = len(order) // 2
    made = constant(order, 0)
    for one, other in zip(order[:half], order[half:]):
        made = made | variable(order, one) & variable(order, other)
    return made


class MakingTest(Case):
    def test_parts(self):
        rows = [("z", 0, 1), ("y", 2, 1), ("x", 3, 0)]
        made = Table(XYZ, rows, 4)
        self.assertEqual([made.order(), made.rows(), made.root, len(made)], [XYZ, rows, 4, 3])
        self.assertEqual(Table(order=tuple(XYZ), rows=tuple(rows), root=4), made)
        self.assertEqual(len(Table([], [], 1)), 0)
        self.assertEqual(Table([], [], 1).says(()), 1)

    def test_copies(self):
        order, rows = list(XYZ), [("z", 0, 1)]
        made = Table(order, rows, 2)
        order.append("w")
        rows.append(5)
        made.order().clear()
        made.rows().clear()
        self.assertEqual([made.order(), made.rows()], [XYZ, [("z", 0, 1)]])
        self.assertEqual(made, Z)

    def test_the_root_is_not_assigned(self):
        with self.assertRaises(AttributeError):
            PICK.root = 3

    def test_repr(self):
        self.assertEqual(repr(Table(("x",), (("x", 0, 1),), 2)), "Table(['x'], [('x', 0, 1)], 2)")
        self.assertEqual(eval(repr(PICK)), PICK)

    def test_equal(self):
        odd = Table(XYZ, [("z", 0, 1), ("z", 0, 1), ("y", 3, 3)], 4)
        self.assertTrue(Table(XYZ, [("z", 0, 1)], 2) == Z)
        for other in (odd, Table(XYZ, [("z", 0, 1)], 1), Table(XYZ, [("z", 1, 0)], 2), Table(["y", "x", "z"], [("z", 0, 1)], 2)):
            self.assertFalse(other == Z)
            self.assertTrue(other != Z)
        for value in (None, 2, repr(Z), [XYZ, [("z", 0, 1)], 2], object()):
            self.assertFalse(Z == value)

    def test_it_is_not_iterated_over(self):
        with self.assertRaises(TypeError):
            iter(PICK)

    def test_wrong_orders(self):
        for value in WRONG_ORDERS:
            self.refuses_value(InvalidOrder, value, Table, value, None, None)
            self.refuses_value(InvalidOrder, value, Table, order=value, rows=[], root=0)
        self.assertEqual(len(Table(SIXTEEN, [], 0).order()), 16)

    def test_wrong_rows(self):
        for value in (None, "x", 5, {}, {("x", 0, 1): 1}):
            self.refuses(InvalidRows, [None], Table, XYZ, value, None)
        for wrong in (
            None, "x01", ["x", 0, 1], ("x", 0), ("x", 0, 1, 1), ("w", 0, 1), (None, 0, 1), (["x"], 0, 1), ("x", 0, 3),
            ("x", 3, 0), ("x", -1, 0), ("x", True, 0), ("x", False, 1), ("x", 0, None), ("x", "0", 1), ("y", 2, 0),
            ("z", 0, 2), ("x", 99, 0), (0, 0, 1),
        ):
            self.refuses(InvalidRows, [1], Table, XYZ, [("y", 0, 1), wrong, wrong], None)
        self.assertEqual(Table(XYZ, [("y", 0, 1), ("x", 2, 2)], 3).least(), Y)

    def test_wrong_roots(self):
        for value in (3, -1, None, True, False, "2", [2], (2,)):
            self.refuses_value(InvalidPlace, value, Table, XYZ, [("z", 0, 1)], value)
        self.refuses_value(InvalidPlace, 2, Table, [], [], root=2)

    def test_too_many_rows(self):
        rows = [("x", 0, 1)] * 301
        self.refuses(TooMany, ["rows", 300], Table, XYZ, rows, 2)
        self.refuses(InvalidPlace, [303], Table, XYZ, rows, 303)
        self.assertEqual(len(Table(XYZ, rows[:300], 301)), 300)


class SaysTest(Case):
    def test_all_letters(self):
        for made in tables():
            for letter, bit in truth_of(made).items():
                self.assertEqual(made.says(letter), bit)
                self.assertEqual(made.says(letter=letter), bit)

    def test_wrong_letters(self):
        for value in ([0, 0, 0], (0, 0), (0, 0, 0, 0), (0, 0, True), (0, 0, 2), None, "000", 0):
            self.refuses_value(InvalidLetter, value, PICK.says, value)


class LeastTest(Case):
    def test_least_tables(self):
        for made in tables():
            least = made.least()
            self.assertEqual((least.rows(), least.root), naive_least(made.order(), truth_of(made)))
            self.assertEqual(least.order(), made.order())
            self.assertIs(made.is_least(), made == least)
            self.assertIs(least.is_least(), True)

    def test_each_way_of_not_being_least(self):
        self.assertTrue(PICK.is_least())
        for rows, root in (
            ([("z", 0, 1), ("y", 0, 1), ("x", 2, 3), ("x", 3, 2)], 4),  # one that is not come to
            ([("y", 0, 1), ("z", 0, 1), ("x", 3, 2)], 4),               # not as numbered
            ([("z", 0, 1), ("z", 0, 1), ("y", 2, 3)], 4),               # twice the same
            ([("z", 0, 1), ("y", 2, 2)], 3),                            # one place on both sides
        ):
            self.assertIs(Table(XYZ, rows, root).is_least(), False)


class OperatorsTest(Case):
    def test_signs(self):
        made = list(tables(42))
        for at, one in enumerate(made):
            says = truth_of(one)
            self.assertEqual(~one, table_of_truth(one.order(), {letter: 1 - says[letter] for letter in says}))
            for other in made[at % 6::6]:
                if other.order() != one.order():
                    continue
                then = truth_of(other)
                for told, rule in ((one & other, min), (one | other, max), (one ^ other, lambda pair: pair[0] ^ pair[1])):
                    expected = table_of_truth(one.order(), {letter: rule((says[letter], then[letter])) for letter in says})
                    self.assertEqual(told, expected)

    def test_they_change_nothing(self):
        odd = Table(XYZ, [("z", 0, 1), ("z", 0, 1), ("y", 3, 3)], 4)
        before = repr(odd)
        told = [odd & X, odd | X, odd ^ X, ~odd, odd.least()]
        self.assertEqual(repr(odd), before)
        self.assertTrue(all(one.is_least() for one in told))

    def test_other_orders(self):
        other = variable(["y", "x", "z"], "x")
        for call in (lambda: X & other, lambda: X | other, lambda: X ^ other, lambda: parting(X, other)):
            self.refuses(OtherOrders, [XYZ, ["y", "x", "z"]], call)

    def test_in(self):
        for made in tables():
            truth = truth_of(made)
            for at, name in enumerate(made.order()):
                hangs = any(truth[letter] != truth[with_bit(letter, at, 1)] for letter in truth)
                self.assertIs(name in made, hangs)
                self.assertIs(name in hangs_on(made), hangs)
            told = hangs_on(table=made)
            self.assertEqual(told, [name for name in made.order() if name in told])
            for value in NO_VARIABLES:
                self.assertIs(value in made, False)

    def test_sixteen_variables_and_too_many_rows(self):
        even = constant(SIXTEEN, 0)
        for name in SIXTEEN:
            even = even ^ variable(SIXTEEN, name)
        self.assertEqual([len(even), how_many(even)], [31, 2 ** 15])
        self.assertEqual(even.says((1,) * 15 + (0,)), 1)
        self.assertEqual(len(wide(SIXTEEN[:14])), 254)
        self.refuses(TooMany, ["rows", 300], wide, SIXTEEN)


    def test_just_as_many_rows_as_are_let(self):
        inputs, gates, registers, _ = full_circuit()
        order = inputs + [row[0] for row in registers]
        made = {name: variable(order, name) for name in order}
        made["s0"] = constant(order, 0)
        for name, kind, (first, second) in gates[1:-1]:
            rules = {"and": Table.__and__, "or": Table.__or__, "xor": Table.__xor__}
            made[name] = rules[kind](made[first], made[second])
        full = made["full"]
        self.assertEqual([len(full), len(~full), full.least()], [300, 300, full])
        self.refuses(TooMany, ["rows", 300], lambda: made["i0"] & full)
        self.refuses(TooMany, ["rows", 300], lambda: ~made["i0"] | full)


class VariableTest(Case):
    def test_ordinary(self):
        self.assertEqual(Y, Table(XYZ, [("y", 0, 1)], 2))
        self.assertEqual(variable(order=tuple(XYZ), name="y"), Y)
        self.assertEqual([constant(XYZ, 0), constant(order=(), bit=1)], [Table(XYZ, [], 0), Table([], [], 1)])

    def test_wrong(self):
        for value in WRONG_ORDERS:
            self.refuses_value(InvalidOrder, value, variable, value, "x")
            self.refuses_value(InvalidOrder, value, constant, value, 7)
        for value in NO_VARIABLES:
            self.refuses_value(UnknownVariable, value, variable, XYZ, value)
        for value in (2, -1, True, False, None, "1", [1], (0,)):
            self.refuses_value(InvalidBit, value, constant, XYZ, value)


class OfVariablesTest(Case):
    def test_held_some_every(self):
        for made in tables():
            truth = truth_of(made)
            for at, name in enumerate(made.order()):
                at_bits = [{letter: truth[with_bit(letter, at, bit)] for letter in truth} for bit in (0, 1)]
                for bit in (0, 1):
                    self.assertEqual(held(made, name, bit), table_of_truth(made.order(), at_bits[bit]))
                either = {letter: max(at_bits[0][letter], at_bits[1][letter]) for letter in truth}
                both = {letter: min(at_bits[0][letter], at_bits[1][letter]) for letter in truth}
                self.assertEqual(some(made, name), table_of_truth(made.order(), either))
                self.assertEqual(every(made, name), table_of_truth(made.order(), both))

    def test_rises_and_can_be_exchanged(self):
        for made in tables():
            truth = truth_of(made)
            for at, name in enumerate(made.order()):
                falls = any(truth[with_bit(letter, at, 0)] > truth[with_bit(letter, at, 1)] for letter in truth)
                self.assertIs(rises(made, name), not falls)
                for then, second in enumerate(made.order()):
                    same = all(
                        truth[letter] == truth[with_bit(with_bit(letter, at, letter[then]), then, letter[at])]
                        for letter in truth
                    )
                    self.assertIs(can_be_exchanged(made, name, second), same)
        self.assertIs(rises(table=PICK, name="x"), False)
        self.assertIs(can_be_exchanged(table=PICK, name="x", second="x"), True)

    def test_numbers_and_letters(self):
        for made in tables():
            truth = truth_of(made)
            self.assertEqual(how_many(made), sum(truth.values()))
            for bit in (0, 1):
                found = [letter for letter in sorted(truth) if truth[letter] == bit]
                self.assertEqual(least_letter(made, bit), found[0] if found else None)
            for other in tables():
                if other.order() == made.order():
                    then = truth_of(other)
                    found = [letter for letter in sorted(truth) if truth[letter] != then[letter]]
                    self.assertEqual(parting(made, other), found[0] if found else None)

    def test_the_examples(self):
        self.assertEqual([how_many(PICK), least_letter(PICK, 1), least_letter(table=constant([], 1), bit=1)], [4, (0, 0, 1), ()])
        self.assertEqual([least_letter(constant(XYZ, 1), 0), parting(one=X, other=X)], [None, None])
        self.assertEqual(held(table=PICK, name="x", bit=0), Z)
        self.assertEqual([some(table=PICK, name="x"), every(table=PICK, name="x")], [Y | Z, Y & Z])
        self.assertEqual(how_many(table=X), 4)

    def test_wrong_variables_and_bits(self):
        for value in NO_VARIABLES:
            self.refuses_value(UnknownVariable, value, held, PICK, value, 7)
            for call in (some, every, rises):
                self.refuses_value(UnknownVariable, value, call, PICK, value)
                self.refuses_value(UnknownVariable, value, call, table=PICK, name=value)
            self.refuses_value(UnknownVariable, value, can_be_exchanged, PICK, value, "w")
            self.refuses_value(UnknownVariable, value, can_be_exchanged, PICK, "x", value)
        for value in (2, -1, True, False, None, "1", [1], (0,)):
            self.refuses_value(InvalidBit, value, held, PICK, "x", value)
            self.refuses_value(InvalidBit, value, least_letter, PICK, bit=value)

    def test_too_many_rows_where_a_table_is_told(self):
        firsts, seconds = ["a%d" % k for k in range(6)], ["b%d" % k for k in range(6)]
        order = ["s"] + firsts + seconds
        odd = [constant(order, 0), constant(order, 0)]
        for k in range(6):
            for shift in (0, 1):
                pair = variable(order, firsts[k]) & variable(order, seconds[(k + 2 * shift) % 6])
                odd[shift] = odd[shift] ^ pair
        sign = variable(order, "s")
        made = sign & odd[0] | ~sign & odd[1]
        self.assertEqual([len(odd[0]), len(odd[1]), len(made)], [157, 157, 221])
        self.refuses(TooMany, ["rows", 300], some, made, "s")
        self.refuses(TooMany, ["rows", 300], every, made, "s")
        # what is told of it as a bool has no limit
        self.assertIs(rises(made, "s"), False)
        self.assertIs(can_be_exchanged(made, "s", "b0"), False)
        self.assertEqual(held(made, "s", 1), odd[0])


if __name__ == "__main__":
    unittest.main()
