"""Points [22] and [25], and the functions of orders."""

import itertools
import random
import unittest

from tests.helping import Case, full_circuit, letters_of, naive_least, naive_says, random_rows
from wirewords.circuits import Circuit
from wirewords.errors import InvalidNames, InvalidOrder, TooMany, UnknownVariable
from wirewords.gates import table_of
from wirewords.orders import are_bounds, below, best_order, bounds, many, reordered
from wirewords.tables import Table, constant, variable

ACBD = ["a", "c", "b", "d"]
A, C, B, D = [variable(ACBD, name) for name in ACBD]
PAIRS = A & B | C & D
X, Y = [variable(["x", "y", "z"], name) for name in ["x", "y"]]
SEVEN = ["v%d" % k for k in range(7)]


def truth_of(table):
    order, rows, root = table.order(), table.rows(), table.root
    return {letter: naive_says(order, rows, root, letter) for letter in letters_of(len(order))}


def tables(most=5, many_of=48):
    for seed in range(many_of):
        order = ["d", "a", "e", "b", "c"][:seed % (most + 1)]
        yield Table(order, *random_rows(seed, order, seed % 10))


def thick_tables():
    """Tables that say bits at random, or pairs and chains, of which unlike orders have unlike numbers of rows."""
    for seed in range(30):
        chance = random.Random(seed)
        order = ["d", "a", "e", "b", "c"][:2 + seed % 4]
        chance.shuffle(order)
        yield Table(order, *naive_least(order, {letter: chance.randrange(2) for letter in letters_of(len(order))}))
        pairs = constant(order, 0)
        for one, other in zip(order[::2], order[1::2]):
            pairs = pairs | variable(order, one) & variable(order, other)
        chance.shuffle(order)
        yield reordered(pairs, order) if seed % 2 else ~reordered(pairs, order)


def naive_reordered(table, order):
    truth = truth_of(table)
    turned = {
        letter: truth[tuple(letter[order.index(name)] for name in table.order())] for letter in letters_of(len(order))
    }
    return naive_least(order, turned)


def naive_below(table, names, name):
    """By holding the set in all ways, and looking at what comes at all letters."""
    order, truth = table.order(), truth_of(table)
    found = set()
    for bits in letters_of(len(names)):
        held = dict(zip(names, bits))
        found.add(tuple(
            truth[tuple(held.get(each, bit) for each, bit in zip(order, letter))] for letter in sorted(truth)
        ))
    at = order.index(name)
    letters = sorted(truth)
    flipped = [letters.index(letter[:at] + (1 - letter[at],) + letter[at + 1:]) for letter in letters]
    return sum(any(says[k] != says[flipped[k]] for k in range(len(letters))) for says in found)


class ReorderedTest(Case):
    def test_all_sequences(self):
        for made in tables(4):
            for order in itertools.permutations(sorted(made.order())):
                told = reordered(made, list(order))
                self.assertEqual((told.rows(), told.root), naive_reordered(made, list(order)))
                self.assertEqual(told.order(), list(order))
        self.assertEqual(len(reordered(table=PAIRS, order=("a", "b", "c", "d"))), 4)
        self.assertEqual(reordered(constant([], 1), []), constant([], 1))

    def test_the_table_stays(self):
        odd = Table(["x", "y"], [("y", 0, 1), ("y", 0, 1), ("x", 2, 3)], 4)
        order = ["y", "x"]
        self.assertEqual(reordered(odd, order), variable(["y", "x"], "y"))
        self.assertEqual([len(odd), order], [3, ["y", "x"]])

    def test_wrong_orders(self):
        for value in (None, "acbd", 5, [], ["a", "b", "c"], ["a", "b", "c", "d", "e"], ["a", "b", "c", "c"],
                      ["a", "b", "c", "e"], ["a", "b", "c", None], ["a", "b", "c", ["d"]], {"a": 1}, True):
            self.refuses_value(InvalidOrder, value, reordered, PAIRS, value)
            self.refuses_value(InvalidOrder, value, reordered, table=PAIRS, order=value)

    def test_sixteen_variables_and_too_many_rows(self):
        firsts, seconds = ["a%d" % k for k in range(8)], ["b%d" % k for k in range(8)]
        good = [name for pair in zip(firsts, seconds) for name in pair]
        made = constant(good, 0)
        for one, other in zip(firsts, seconds):
            made = made | variable(good, one) & variable(good, other)
        self.assertEqual(len(made), 16)
        self.refuses(TooMany, ["rows", 300], reordered, made, firsts + seconds)
        self.assertEqual(reordered(made, good[::-1]).is_least(), True)
        seven = [firsts[7], seconds[7]] + firsts[:7] + seconds[:7]
        self.assertEqual(len(reordered(made, seven)), 256)
        self.assertEqual(below(made, firsts, "b0"), 128)
        self.assertEqual(below(made, firsts + seconds[:7], "b7"), 1)


    def test_just_as_many_rows_as_are_let(self):
        full = table_of(Circuit(*full_circuit()), "full")
        order = full.order()
        # the first variable is one on which the table does not hang
        told = reordered(full, order[1:] + order[:1])
        self.assertEqual([len(told), told.order()[-1]], [300, "i0"])
        self.assertEqual(reordered(told, order), full)


class ManyTest(Case):
    def test_rows_of_the_least_table(self):
        self.assertEqual(many(PAIRS), {"a": 1, "b": 2, "c": 2, "d": 1})
        self.assertEqual(many(table=constant(["x", "y"], 1)), {"x": 0, "y": 0})
        for made in tables():
            rows, _ = naive_least(made.order(), truth_of(made))
            told = many(made)
            self.assertEqual(told, {name: sum(row[0] == name for row in rows) for name in made.order()})
            self.assertEqual(list(told), sorted(told))


class BelowTest(Case):
    def test_all_sets(self):
        for made in tables(4):
            order = made.order()
            for size in range(len(order)):
                for names in itertools.permutations(order, size):
                    for name in order:
                        if name not in names:
                            self.assertEqual(below(made, list(names), name), naive_below(made, names, name))
        self.assertEqual(below(table=PAIRS, names=("c", "a"), name="b"), 2)

    def test_rows_are_what_is_below_the_set_ahead(self):
        for made in tables():
            order = made.order()
            found = many(made)
            for at, name in enumerate(order):
                self.assertEqual(found[name], below(made, order[:at], name))

    def test_errors_in_sequence(self):
        for value in (None, "a", 5, {"a": 1}, ["w"], ["a", "a"], ["a", None], [["a"]], [0], ["a", True], ("a", "w")):
            self.refuses_value(InvalidNames, value, below, PAIRS, value, None)
            self.refuses_value(InvalidNames, value, below, table=PAIRS, names=value, name="b")
        for value in ("w", "", None, 0, ["b"], ("b",), True, "a", "c"):
            self.refuses_value(UnknownVariable, value, below, PAIRS, ["a", "c"], value)
        self.assertEqual(below(constant(["x"], 0), [], "x"), 0)


class BestOrderTest(Case):
    def test_against_all_sequences(self):
        for made in list(tables(4)) + list(thick_tables()):
            sizes = {order: len(reordered(made, order)) for order in itertools.permutations(sorted(made.order()))}
            least = min(sizes.values())
            self.assertEqual(best_order(made), list(min(order for order in sizes if sizes[order] == least)))
        self.assertEqual(best_order(table=PAIRS), ["a", "b", "c", "d"])
        self.assertEqual([best_order(constant([], 0)), best_order(constant(["y", "x"], 0))], [[], ["x", "y"]])

    def test_six_variables_and_seven(self):
        order = SEVEN[:6]
        made = constant(order, 0)
        for one, other in ((0, 3), (1, 4), (2, 5)):
            made = made | variable(order, order[one]) & variable(order, order[other])
        self.assertEqual(best_order(made), ["v0", "v3", "v1", "v4", "v2", "v5"])
        self.assertEqual([len(made), bounds(made)[tuple(order)]], [14, 6])
        self.refuses(TooMany, ["variables", 6], best_order, constant(SEVEN, 0))
        self.refuses(TooMany, ["variables", 6], bounds, constant(SEVEN, 0))
        self.refuses(TooMany, ["variables", 6], are_bounds, constant(SEVEN, 0), None)


class BoundsTest(Case):
    def test_the_greatest(self):
        for made in list(tables(4)) + list(thick_tables()):
            names = sorted(made.order())
            told = bounds(made)
            tuples = [each for size in range(len(names) + 1) for each in itertools.combinations(names, size)]
            self.assertEqual(list(told), sorted(tuples))
            self.assertEqual(told[()], 0)
            for each in tuples:
                steps = [
                    told[tuple(one for one in each if one != name)]
                    + naive_below(made, tuple(one for one in each if one != name), name)
                    for name in each
                ]
                self.assertEqual(told[each], min(steps) if steps else 0)
            self.assertIs(are_bounds(made, told), True)
            self.assertEqual(told[tuple(names)], len(reordered(made, best_order(made))))
        self.assertEqual(bounds(table=X & Y)[("x", "y", "z")], 2)

    def test_lesser_ones_are_bounds_and_greater_ones_are_not(self):
        for seed, made in enumerate(tables(4)):
            chance = random.Random(seed)
            found = bounds(made)
            self.assertIs(are_bounds(made, {each: 0 for each in found}), True)
            for each in found:
                if each:
                    self.assertIs(are_bounds(made, {**found, each: found[each] + 1}), False)
            shuffled = list(found.items())
            chance.shuffle(shuffled)
            self.assertIs(are_bounds(table=made, value=dict(shuffled)), True)

    def test_any_value(self):
        found = bounds(X & Y)
        names = ("x", "y", "z")
        wrong = [None, 5, [], (), "x", list(found), list(found.items()), {}, X, object()]
        wrong += [{**found, (): 1}, {**found, (): False}, {**found, names: -1}, {**found, names: None},
                  {**found, ("x",): True}, {**found, names: "0"}, {**found, names: (0,)}]
        wrong += [{**found, ("y", "x"): 0}, {**found, "x": 0}, {**found, ("x", "x"): 0}, {**found, 0: 0}]
        wrong += [{each: found[each] for each in found if each != lost} for lost in found]
        unsorted = {each: found[each] for each in found if each != ("x", "y")}
        wrong += [{**unsorted, ("y", "x"): 0}, {**unsorted, None: 0}]
        for value in wrong:
            self.assertIs(are_bounds(X & Y, value), False)
        self.assertIs(are_bounds(X & Y, {**found, names: 0}), True)
        self.assertIs(are_bounds(constant([], 0), {(): 0}), True)
        self.assertIs(are_bounds(constant([], 0), {}), False)


if __name__ == "__main__":
    unittest.main()
