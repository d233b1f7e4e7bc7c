"""Points [83] and [84], wirewords/trees.py; of point [4] "Together or apart", its second half."""

import copy
import itertools

from tests.helping import ODD, Case, letters_of
from tests.machining import LATE, naive_run, random_machine, some_machines
from tests.papers import is_bits, is_int, is_listed, some_variants, variants
from tests.test_resets import FLIP, MORE, ONE, SIXTEEN, WRONG_LOTS
from wirewords.errors import InvalidLetter, InvalidNumber, InvalidState, TooMany
from wirewords.machines import Machine
from wirewords.refusals import InvalidLot
from wirewords.trees import (
    deep, depth, forgets, found_out, is_deep, is_stuck, is_tree, parted, stuck, tree,
)

# from which lot words lead to just 2,000 lots of two states and more, without forgetting
GOALS = [[1, 0], [2, 1], [3, 2], [4, 3], [5, 4], [6, 2], [7, 6], [8, 9], [9, 8], [10, 7], [11, 10], [12, 11], [13, 12], [14, 13], [0, 14]]
MANY = Machine(1, 1, [[(goal, (0,)), (other, (int(at in (3, 9)),))] for at, (goal, other) in enumerate(GOALS)])
# state 15 does as state 0 does, and no letter leads there
ONE_MORE = Machine(1, 1, MANY.rows() + [MANY.rows()[0]])


def lots(machine, least=1):
    return [list(lot) for many in range(least, len(machine) + 1) for lot in itertools.combinations(range(len(machine)), many)]


def naive_parts(machine, lot, at):
    """The dict from outputs to lots, None where a letter forgets."""
    told = [machine.rows()[state][at] for state in lot]
    if len(set(told)) < len(told):
        return None
    return {out: tuple(sorted(goal for goal, said in told if said == out)) for _, out in told}


def naive_depths(machine):
    """The dict from all lots to least depths, None for those that no tree finds out, by rising depths."""
    depths = {tuple(lot): 0 if len(lot) == 1 else None for lot in lots(machine)}
    for number in range(1, 2 ** len(machine) + 1):
        ahead = dict(depths)
        for lot in depths:
            for at in range(len(letters_of(machine.width))):
                parts = naive_parts(machine, lot, at)
                if depths[lot] is None and parts is not None and all(ahead[part] is not None for part in parts.values()):
                    depths[lot] = number
        if ahead == depths:
            return depths


def naive_is_tree(machine, lot, value, ends=None):
    """By the words of the document: from each state of the lot the tree comes to what it tells."""
    ends = {state: state for state in lot} if ends is None else ends
    if type(value) is not tuple or len(value) < 2:
        return False
    if value[0] == "is" and type(value[0]) is str and len(value) == 2:
        return is_int(value[1]) and set(ends) == {value[1]}
    if type(value[0]) is not str or value[0] != "ask" or len(value) != 3 or not is_bits(value[1], machine.width) or type(value[2]) is not dict:
        return False
    at = letters_of(machine.width).index(value[1])
    behind = {}
    for state, now in ends.items():
        goal, out = machine.rows()[now][at]
        behind.setdefault(out, {})[state] = goal
    if not all(is_bits(out, machine.out_width) for out in value[2]) or set(value[2]) != set(behind):
        return False
    return all(naive_is_tree(machine, lot, value[2][out], behind[out]) for out in behind)


def naive_is_lot(machine, value, least=1):
    return is_listed(value) and len(value) >= least and all(is_int(state, 0, len(machine)) for state in value) and list(value) == sorted(set(value))


def kept(machine, lot, is_kept):
    for at in range(len(letters_of(machine.width))):
        parts = naive_parts(machine, lot, at)
        if parts is not None and not any(is_kept(part) for part in parts.values()):
            return False
    return True


def naive_is_stuck(machine, lot, value):
    if not is_listed(value) or not all(naive_is_lot(machine, each, 2) for each in value):
        return False
    family = [tuple(each) for each in value]
    if len(set(family)) < len(family) or tuple(lot) not in family:
        return False
    return all(kept(machine, each, lambda part: part in family) for each in family)


def naive_is_deep(machine, lot, number, value):
    if type(value) is not dict:
        return False
    for key, count in value.items():
        if type(key) is not tuple or not naive_is_lot(machine, key, 2) or not is_int(count, 1):
            return False
    if value.get(tuple(lot), 0) <= number:
        return False
    return all(count == 1 or kept(machine, key, lambda part, count=count: value.get(part, 0) >= count - 1) for key, count in value.items())


def tree_depth(told):
    return 0 if told[0] == "is" else 1 + max(tree_depth(branch) for branch in told[2].values())


def exchanged(told, names):
    return ("is", names[told[1]]) if told[0] == "is" else ("ask", told[1], {out: exchanged(each, names) for out, each in told[2].items()})


class PartedTest(Case):
    def test_against_rows(self):
        seen = {True: 0, False: 0}
        for machine in some_machines(30):
            for lot in lots(machine):
                for at, letter in enumerate(letters_of(machine.width)):
                    told = [machine.rows()[state][at] for state in lot]
                    right = {out: sorted({goal for goal, said in told if said == out}) for _, out in told}
                    self.assertEqual(parted(machine, lot, letter), right)
                    self.assertEqual(parted(machine, tuple(lot), letter), right)
                    self.unlike_lists(parted(machine, lot, letter))
                    self.assertIs(forgets(machine, lot, letter), len(set(told)) < len(told))
                    seen[forgets(machine, lot, letter)] += 1
        self.assertGreater(min(seen.values()), 30)

    def test_ordinary_and_wrong_ones(self):
        self.assertEqual([parted(machine=FLIP, lot=[0, 1], letter=(1,)), forgets(machine=LATE, lot=[0, 1], letter=(0,))],
                         [{(0,): [1], (1,): [0]}, False])
        self.assertEqual([parted(LATE, [0, 1], (1,)), forgets(SIXTEEN, [0, 15], (1,)), forgets(ONE, [0], ())], [{(0,): [1], (1,): [1]}, True, False])
        for call in (parted, forgets):
            for value in WRONG_LOTS:
                self.refuses_value(InvalidLot, value, call, FLIP, value, None)
            for value in (None, 0, (2,), (True,), (), (0, 0), [0], "0", (None,)):
                self.refuses_value(InvalidLetter, value, call, FLIP, [0, 1], value)
                self.refuses_value(InvalidLetter, value, call, letter=value, lot=[0], machine=MORE)
            self.refuses(TooMany, ["states", 16], call, MORE, [0, 16], (0,))


class TreeTest(Case):
    def test_one_of_both(self):
        seen = {True: 0, False: 0}
        for machine in some_machines(40, 5):
            depths = naive_depths(machine)
            for lot in lots(machine):
                told, family, least = tree(machine, lot), stuck(machine, lot), depths[tuple(lot)]
                self.assertEqual(depth(machine, lot), least)
                seen[least is None] += 1
                self.assertEqual([told is None, family is None], [least is None, least is not None])
                if least is not None:
                    self.assertEqual([naive_is_tree(machine, lot, told), is_tree(machine, lot, told), tree_depth(told)], [True, True, least])
                    self.unlike_lists(told)
                    for state in range(len(machine)):
                        if state in lot:
                            self.assertEqual(found_out(machine, told, state), state)
                        else:
                            self.assertIn(found_out(machine, told, state), lot + [None])
                else:
                    self.assertEqual([naive_is_stuck(machine, lot, family), is_stuck(machine, lot, family)], [True, True])
                    self.assertEqual({type(each) for each in family + [family]}, {list})
                    self.assertIs(is_stuck(machine, tuple(lot), tuple(tuple(each) for each in family)), True)
                    self.unlike_lists(family)
                for number in range(6):
                    table = deep(machine, lot, number)
                    self.assertIs(table is None, least is not None and least <= number)
                    if table is not None:
                        self.assertEqual([naive_is_deep(machine, lot, number, table), is_deep(machine, lot, number, table)], [True, True])
                        self.assertEqual(list(table), sorted(table))
        self.assertGreater(min(seen.values()), 100)

    def test_more_letters_and_outputs(self):
        for seed in range(8):
            machine = random_machine(seed, 2, 2, 7, 2 + seed % 3)
            depths = naive_depths(machine)
            for lot in ([0, 1], [0, 1, 2, 3], list(range(7))):
                self.assertEqual(depth(machine, lot), depths[tuple(lot)])
                if depths[tuple(lot)] is not None:
                    self.assertIs(naive_is_tree(machine, lot, tree(machine, lot)), True)

    def test_the_document(self):
        self.assertEqual(tree(machine=FLIP, lot=[0, 1]), ("ask", (1,), {(0,): ("is", 0), (1,): ("is", 1)}))
        self.assertEqual([depth(machine=FLIP, lot=[0, 1]), stuck(machine=FLIP, lot=[0, 1]), deep(FLIP, [0, 1], 1)], [1, None, None])
        self.assertIs(is_deep(machine=FLIP, lot=[0, 1], number=0, value={(0, 1): 1}), True)
        self.assertEqual(deep(machine=FLIP, lot=[0, 1], number=0), {(0, 1): 1})

    def test_lots_of_one_state(self):
        self.assertEqual([tree(FLIP, [1]), depth(FLIP, [1]), stuck(FLIP, [1]), deep(FLIP, [1], 0), tree(ONE, [0])], [("is", 1), 0, None, None, ("is", 0)])
        self.assertEqual([is_tree(FLIP, [1], ("is", 1)), is_tree(FLIP, [1], ("is", 0)), is_stuck(FLIP, [1], []), is_stuck(FLIP, [1], [[1]])],
                         [True, False, False, False])
        self.assertEqual([is_deep(FLIP, [1], 0, {(1,): 1}), is_deep(FLIP, [1], 0, {})], [False, False])
        # a tree may ask more than is needed
        self.assertIs(is_tree(FLIP, [1], ("ask", (0,), {(0,): ("is", 1)})), True)

    def test_found_out_where_a_branch_lacks(self):
        three = Machine(0, 2, [[(0, (0, 0))], [(1, (0, 1))], [(2, (1, 1))]])
        told = tree(three, [0, 2])
        self.assertEqual([found_out(machine=three, tree=told, state=state) for state in range(3)], [0, None, 2])
        self.assertEqual([found_out(three, exchanged(told, {0: 2, 2: 0}), state) for state in range(3)], [2, None, 0])
        self.assertEqual(found_out(FLIP, ("is", 0), 1), 0)
        for value in (None, True, -1, 3, "0", [0], (0,)):
            self.refuses_value(InvalidState, value, found_out, three, told, value)
        self.refuses(InvalidState, [17], found_out, MORE, ("is", 0), 17)
        self.refuses(TooMany, ["states", 16], found_out, MORE, ("is", 0), 16)

    def test_deep_trees(self):
        # a lot of two goes round the 16 states until one tells
        rows = [[((at + 1) % 16, (int(at == 15),)), (at, (0,))] for at in range(16)]
        machine = Machine(1, 1, rows)
        lot = list(range(16))
        told = tree(machine, lot)
        self.assertEqual([depth(machine, lot), tree_depth(told), is_tree(machine, lot, told)], [15, 15, True])
        self.assertEqual([found_out(machine, told, state) for state in lot], lot)
        self.assertIs(is_deep(machine, lot, 14, deep(machine, lot, 14)), True)
        self.assertIsNone(deep(machine, lot, 15))

    def test_2000_lots_and_one_more(self):
        lot = [0, 1, 2, 3, 4]
        for call in (tree, depth, stuck):
            call(MANY, lot)
            self.refuses(TooMany, ["lots", 2000], call, ONE_MORE, [1, 2, 3, 4, 15])
            self.assertEqual(call(ONE_MORE, lot), call(MANY, lot))
        self.refuses(TooMany, ["lots", 2000], deep, ONE_MORE, [1, 2, 3, 4, 15], 1)
        table = deep(MANY, lot, 10 ** 20)
        self.assertEqual([table is None, depth(MANY, lot) is None, len(stuck(MANY, lot) or []) <= 2000], [depth(MANY, lot) is not None, table is not None, True])
        # what judges looks no further than at what is passed
        self.assertIs(is_tree(ONE_MORE, [1, 2, 3, 4, 15], None), False)
        self.assertIs(is_stuck(ONE_MORE, [1, 2, 3, 4, 15], []), False)
        self.assertIs(is_deep(ONE_MORE, [1, 2, 3, 4, 15], 0, {(1, 2, 3, 4, 15): 1}), True)

    def test_wrong_ones(self):
        for value in WRONG_LOTS:
            for call in (tree, depth, stuck):
                self.refuses_value(InvalidLot, value, call, FLIP, value)
            self.refuses_value(InvalidLot, value, deep, FLIP, value, None)
            self.refuses_value(InvalidLot, value, is_tree, FLIP, value, None)
            self.refuses_value(InvalidLot, value, is_stuck, FLIP, value, None)
            self.refuses_value(InvalidLot, value, is_deep, FLIP, value, None, None)
        for value in (None, True, False, -1, "1", (1,), [1], {}):
            self.refuses_value(InvalidNumber, value, deep, FLIP, [0, 1], value)
            self.refuses_value(InvalidNumber, value, is_deep, FLIP, [0, 1], value, None)
            self.refuses_value(InvalidNumber, value, deep, number=value, lot=[16], machine=MORE)
        for call in (tree, depth, stuck):
            self.refuses(InvalidLot, [[17]], call, MORE, [17])
            self.refuses(TooMany, ["states", 16], call, MORE, [16])
        self.refuses(TooMany, ["states", 16], deep, MORE, [16], 1)
        for call in (is_tree, is_stuck):
            self.refuses(TooMany, ["states", 16], call, MORE, [16], None)
            self.refuses(InvalidLot, [[]], call, MORE, [], None)
        self.refuses(TooMany, ["states", 16], is_deep, MORE, [16], 1, None)


class JudgedTest(Case):
    def test_trees_of_any_value(self):
        seen = {True: 0, False: 0}
        for machine in list(some_machines(24, 4)) + [FLIP, ONE]:
            for lot in lots(machine):
                told = tree(machine, lot)
                if told is None:
                    told = ("ask", (0,) * machine.width, {(0,) * machine.out_width: ("is", lot[0])})
                for value in [told] + some_variants(told, 60) + ODD:
                    right = naive_is_tree(machine, lot, value)
                    self.assertIs(is_tree(machine, lot, value), right)
                    seen[right] += 1
        self.assertGreater(min(seen.values()), 40)
        right = {(0,): ("is", 0), (1,): ("is", 1)}
        for value in (("ask", (1,), {(0,): ("is", 0)}), ("ask", (1,), {**right, (): ("is", 0)}), ("ask", (0,), right), ["ask", (1,), right],
                      ("ask", [1], right), ("ask", (1,), list(right.items())), ("ask", (True,), right), ("ask", (1,), {(False,): ("is", 0), (1,): ("is", 1)}),
                      ("ask", (1,), {(0,): ("is", False), (1,): ("is", 1)}), ("ask", (1,), {(0,): ["is", 0], (1,): ("is", 1)}), ("is", 0), ("is", [0, 1])):
            self.assertIs(is_tree(FLIP, [0, 1], value), False)
        # a letter that forgets: one of both would be found out
        meets = Machine(0, 0, [[(0, ())], [(0, ())]])
        for state in (0, 1):
            self.assertIs(is_tree(meets, [0, 1], ("ask", (), {(): ("is", state)})), False)

    def test_stuck_families_of_any_value(self):
        seen = {True: 0, False: 0}
        for machine in some_machines(40, 4):
            for lot in lots(machine, 2):
                told = stuck(machine, lot) or [lot]
                for value in [told, tuple(map(tuple, told))] + some_variants(told, 60) + ODD:
                    right = naive_is_stuck(machine, lot, value)
                    self.assertIs(is_stuck(machine, lot, value), right)
                    seen[right] += 1
        self.assertGreater(min(seen.values()), 100)
        stays = Machine(0, 0, [[(0, ())], [(1, ())]])
        for value, right in (([[0, 1]], True), ([(0, 1)], True), (((0, 1),), True), ([[0, 1], (0, 1)], False), ([[0, 1], [0, 1]], False), ([[1, 0]], False),
                             ([[0, 1], [0]], False), ([[0, True]], False), ([], False), ([[0, 1], []], False), ({(0, 1): 1}, False)):
            self.assertIs(is_stuck(machine=stays, lot=[0, 1], value=value), right)

    def test_deep_tables_of_any_value(self):
        seen = {True: 0, False: 0}
        for machine in some_machines(40, 4):
            for lot in lots(machine, 2):
                for number in (0, 1, 3):
                    told = deep(machine, lot, number) or {tuple(lot): number + 1}
                    for value in [told] + some_variants(told, 30) + ODD:
                        right = naive_is_deep(machine, lot, number, value)
                        self.assertIs(is_deep(machine, lot, number, value), right)
                        seen[right] += 1
        self.assertGreater(min(seen.values()), 100)
        self.assertIs(is_deep(FLIP, [0, 1], 10 ** 28, {(0, 1): 10 ** 28 + 1}), False)
        stays = Machine(0, 0, [[(0, ())], [(1, ())]])
        self.assertIs(is_deep(stays, (0, 1), 10 ** 28, deep(stays, (0, 1), 10 ** 28)), True)
        for value in ({(0, 1): True}, {(0, 1): 0}, {(0, 1): 1, (0,): 1}, {(0, True): 1}, {"01": 1, (0, 1): 1}, [(0, 1)], {}):
            self.assertIs(is_deep(stays, [0, 1], 0, value), False)

    def test_repeated_and_unchanged(self):
        for machine in some_machines(16):
            lot = list(range(len(machine)))
            for call in (tree, depth, stuck, lambda one, two: deep(one, two, 1)):
                self.assertEqual(call(machine, lot), call(machine, lot))
            self.assertEqual(lot, list(range(len(machine))))
            value = tree(machine, lot)
            held = copy.deepcopy(value)
            is_tree(machine, lot, value)
            self.assertEqual(value, held)
        self.assertEqual([len(list(variants(0))) > 3, naive_run(FLIP, [(1,)])], [True, ([(0,)], 1)])
