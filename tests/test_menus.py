"""Points [63] to [66], wirewords/menus.py; of point [4] "Shown or hidden"."""

import copy
import itertools
import random

from tests.helping import Case, letters_of, random_parts
from tests.machining import FLIP, counter, naive_answer, words_of
from wirewords.circuits import Circuit
from wirewords.errors import InvalidNumber, TooMany
from wirewords.faults import faults
from wirewords.menus import (
    fewest_tests, is_cover, is_joint_paper, is_stubborn, is_telling_tree, is_tree_against, joint_paper, joint_word,
    least_depth, places_of, stubborn, telling_tree, tree_against,
)
from wirewords.refusals import InvalidFaults, InvalidMenu, InvalidSuspects

BOTH = Circuit(["x", "y"], [("g", "and", ["x", "y"])], [], ["g"])
MENU = [[(0, 0)], [(0, 1)], [(1, 0)], [(1, 1)]]
FIVE = Circuit(list("abcde"), [], [], ["a"])
NAMES = list("abcd")
# each of these outputs shows a stuck input at a letter with its other bit
FOUR = Circuit(NAMES, [], [], NAMES)


def bits_of(number, width):
    return tuple(int(sign) for sign in format(number, "0%db" % width))


def some_menus(many, faulty=8, words=5):
    """Parts, circuits, menus, and faults of them."""
    for seed in range(many):
        parts = random_parts(seed, seed % 3, 1 + seed % 6, seed % 3, 1 + seed % 2)
        circuit = Circuit(*parts)
        chance = random.Random(seed)
        menu = []
        for _ in range(1 + seed % words):
            word = [chance.choice(letters_of(len(parts[0]))) for _ in range(chance.randrange(4))]
            if word not in menu:
                menu.append(word)
        some = faults(circuit)
        chance.shuffle(some)
        yield parts, circuit, menu, some[:1 + seed % faulty]


def naive_places(parts, menu, some):
    return [[at for at, word in enumerate(menu)
             if naive_answer(parts, word, None, fault)[0] != naive_answer(parts, word)[0]] for fault in some]


def naive_fewest(shown, many):
    for number in range(many + 1):
        for picked in itertools.combinations(range(many), number):
            if all(set(places) & set(picked) for places in shown if places):
                return list(picked)


class CoverTest(Case):
    def test_one_of_both(self):
        seen = {True: 0, False: 0}
        for parts, circuit, menu, some in some_menus(80):
            shown = naive_places(parts, menu, some)
            self.assertEqual(places_of(circuit, menu, some), shown)
            fewest = naive_fewest(shown, len(menu))
            self.assertEqual(fewest_tests(circuit, menu, some), fewest)
            self.assertIs(is_cover(circuit, menu, some, fewest), True)
            for picked in itertools.chain(*[itertools.combinations(range(len(menu)), k) for k in range(len(menu) + 1)]):
                right = all(set(places) & set(picked) for places in shown if places)
                self.assertIs(is_cover(circuit, menu, some, list(picked)), right)
            for number in range(4):
                told = tree_against(circuit, menu, some, number)
                self.assertIs(told is None, len(fewest) <= number)
                seen[told is None] += 1
                if told is not None:
                    self.assertIs(is_tree_against(circuit, menu, some, number, told), True)
                    self.check_tree(shown, some, told, number, [])
                    for other in {0, 1, 2, 3} - {number}:
                        self.assertIs(is_tree_against(circuit, menu, some, other, told), False)
                    self.unlike_lists(told)
        self.assertGreater(min(seen.values()), 30)

    def check_tree(self, shown, some, tree, number, picked):
        self.assertEqual([type(tree), len(tree), type(tree[1])], [tuple, 2, list])
        places = shown[some.index(tree[0])]
        self.assertTrue(places)
        self.assertFalse(set(places) & set(picked))
        self.assertEqual(len(tree[1]), len(places) if number else 0)
        for at, branch in zip(places, tree[1]):
            self.check_tree(shown, some, branch, number - 1, picked + [at])

    def test_the_document(self):
        self.assertEqual(places_of(circuit=BOTH, menu=MENU, some=faults(BOTH))[1], [0, 1, 2])
        self.assertEqual(fewest_tests(circuit=BOTH, menu=MENU, some=faults(BOTH)), [1, 2, 3])
        self.assertIsNone(tree_against(circuit=BOTH, menu=MENU, some=faults(BOTH), number=3))
        self.assertIsNotNone(tree_against(BOTH, MENU, faults(BOTH), 2))
        self.unlike_lists(places_of(BOTH, MENU, faults(BOTH)))

    def test_faults_that_show_at_no_word(self):
        menu, some = [[], [(0, 1)]], [("g", 0), ("x", 0)]
        self.assertEqual([places_of(BOTH, menu, some), fewest_tests(BOTH, menu, some)], [[[], []], []])
        self.assertEqual([tree_against(BOTH, menu, some, 0), is_cover(BOTH, menu, some, []), is_cover(BOTH, menu, some, [1])],
                         [None, True, True])
        self.assertIs(is_tree_against(BOTH, menu, some, 0, (("g", 0), [])), False)

    def test_the_first_one(self):
        # either word would do; the cover with lesser positions is the first one
        self.assertEqual(fewest_tests(BOTH, MENU, [("g", 1)]), [0])
        self.assertEqual(fewest_tests(BOTH, [MENU[3], MENU[2], MENU[1]], [("g", 1), ("x", 0)]), [0, 1])

    def test_16_words_and_24_faults(self):
        menu = [[letter] for letter in letters_of(4)]
        some = faults(FOUR)
        self.assertEqual([len(some), fewest_tests(FOUR, menu, some)], [8, [0, 15]])
        # each gate tells one letter, and sticks at 0: all words are needed
        gates, ends = [], []
        for at in range(16):
            ahead = "h"
            for bit, name in zip(bits_of(at, 4), NAMES):
                kind = "and" if bit else "pick"
                gates.append(("t%d%s" % (at, name), kind, [ahead, name] if bit else [name, "l", ahead]))
                ahead = "t%d%s" % (at, name)
            gates.append(("o%d" % at, "or", [ends[-1] if ends else "l", ahead]))
            ends.append("o%d" % at)
        made = Circuit(NAMES, gates + [("l", "low", []), ("h", "high", [])], [], ends[-1:])
        some = [("t%dd" % at, 0) for at in range(16)] + [("t%da" % at, 0) for at in range(8)]
        self.assertEqual([len(some), places_of(made, menu, some)], [24, [[at] for at in range(16)] + [[at] for at in range(8)]])
        self.assertEqual(fewest_tests(made, menu, some), list(range(16)))
        told = tree_against(made, menu, some, 3)
        self.assertIs(is_tree_against(made, menu, some, 3, told), True)
        wide = [("o15", 0)] + [("t%dd" % at, 0) for at in range(3)]
        told = tree_against(made, menu, wide, 2)
        self.assertIs(is_tree_against(made, menu, wide, 2, told), True)
        more = [(wire, 0) for wire in made.wires()[:25]]
        self.refuses(InvalidFaults, [None], places_of, made, menu, more)
        self.refuses(InvalidMenu, [None], places_of, made, menu + [[]], some)
        self.assertEqual(len(places_of(made, menu, more[:24])), 24)

    def test_covers_of_any_value(self):
        some = faults(BOTH)
        for value in ([1, 2, 3], (1, 2, 3), [0, 1, 2, 3]):
            self.assertIs(is_cover(circuit=BOTH, menu=MENU, some=some, value=value), True)
        for value in (None, 5, True, "123", {}, {1: 1, 2: 2, 3: 3}, [], (), [1, 2], [3, 2, 1], [1, 1, 2, 3], [1, 2, 3, 4], [-1, 1, 2, 3],
                      [True, 2, 3], [False, 1, 2, 3], [1, 2, "3"], [1, 2, None], [1, 2, [3]], [[1, 2, 3]], [(1,), (2,), (3,)], object()):
            self.assertIs(is_cover(BOTH, MENU, some, value), False)
        for value, right in (([0], True), ([0, 1], True), ([0, 0], False), ([1, 0], False), ([3], False)):
            self.assertIs(is_cover(BOTH, MENU, [("g", 1)], value), right)

    def test_trees_of_any_value(self):
        some = [("g", 0), ("g", 1), ("x", 1)]
        good = (("g", 1), [(("g", 0), []), (("g", 0), []), (("g", 0), [])])
        for value in (good, (("g", 1), tuple(good[1])), (("g", 1), [(("g", 0), ()), (("g", 0), []), (("x", 1), ())]),
                      (("g", 0), [(("x", 1), [])])):
            self.assertIs(is_tree_against(circuit=BOTH, menu=MENU, some=some, number=1, value=value), True)
        wrong = [None, 5, True, "", {}, [], (), list(good), good[:1], good + ([],), (good[1], good[0]), (None, good[1]), (("g", 1), None),
                 (("g", 1), []), (("g", 1), good[1][:2]), (("g", 1), good[1] + good[1][:1]), (("g", 1), {0: 1, 1: 2, 2: 3}),
                 (("g", True), good[1]), (["g", 1], good[1]), (("g", 1, 0), good[1]), (("y", 1), good[1][:1]), (("z", 1), good[1]),
                 ((None, 1), good[1]), ((["g"], 1), good[1]), (("g",), good[1]), ((), good[1]), (("g", None), good[1]), (("g", [1]), good[1]), object()]
        wrong += [(("g", 1), [branch] + good[1][1:]) for branch in (
            None, (), [], (("g", 1), []), (("g", 0), [()]), (("g", 0), None), (("g", False), []), [("g", 0), []], (("g", 0),), "g", ("g", 0))]
        # x stuck at 1 shows at position 1, behind which it stands
        wrong += [(("g", 1), [good[1][0], (("x", 1), []), good[1][2]])]
        for value in wrong:
            self.assertIs(is_tree_against(BOTH, MENU, some, 1, value), False)
        self.assertIs(is_tree_against(BOTH, MENU, some, 1, (("g", 1), [(("x", 1), []), good[1][1], (("x", 1), [])])), True)
        self.assertEqual([is_tree_against(BOTH, MENU, some, 0, (("g", 1), [])), is_tree_against(BOTH, MENU, some, 0, good)],
                         [True, False])

    def test_no_tree_where_few_are_enough(self):
        some = [("g", 0), ("x", 1)]
        leaves = [(fault, []) for fault in some]
        ones = [(fault, list(branches)) for fault in some for many in (0, 1, 2)
                for branches in itertools.product(leaves, repeat=many)]
        twos = [(fault, list(branches)) for fault in some for many in (1, 2) for branches in itertools.product(ones, repeat=many)]
        self.assertEqual(fewest_tests(BOTH, MENU, some), [1, 3])
        for value in leaves + ones + twos:
            self.assertIs(is_tree_against(BOTH, MENU, some, 2, value), False)
        self.assertTrue(any(is_tree_against(BOTH, MENU, some, 1, value) for value in ones))


def naive_depth(told, lot):
    """The least depth by trying all words; told is for each word the list of the answers."""
    depths = []
    for answers in told:
        keys = {repr(answers[at]) for at in lot}
        if len(keys) > 1:
            parts = [tuple(at for at in lot if repr(answers[at]) == key) for key in keys]
            depths.append(1 + max(naive_depth(told, part) for part in parts))
    return min(depths, default=0)


class TellingTest(Case):
    def check_tree(self, told, tree, lot):
        if tree[0] == "left":
            self.assertEqual(tree, ("left", list(lot)))
            self.assertTrue(all(len({repr(answers[at]) for at in lot}) == 1 for answers in told))
            return 0
        word, position, branches = tree
        self.assertEqual([word, type(branches)], ["ask", list])
        answers = told[position]
        expected = sorted(list(each) for each in {tuple(answers[at]) for at in lot})
        self.assertEqual([each for each, _ in branches], expected)
        below = [self.check_tree(told, branch, [at for at in lot if answers[at] == each]) for each, branch in branches]
        return 1 + max(below)

    def test_one_of_both(self):
        seen = {}
        for parts, circuit, menu, some in some_menus(90, 7):
            suspects = some[:3] + [None] + some[3:]
            told = [[naive_answer(parts, word, None, suspect)[0] for suspect in suspects] for word in menu]
            lot = tuple(range(len(suspects)))
            depth = naive_depth(told, lot)
            seen[depth] = seen.get(depth, 0) + 1
            tree = telling_tree(circuit, menu, suspects)
            self.assertEqual(self.check_tree(told, tree, lot), depth)
            self.assertEqual(least_depth(circuit, menu, suspects), depth)
            self.assertIs(is_telling_tree(circuit, menu, suspects, tree), True)
            self.assertEqual(telling_tree(circuit, menu, tuple(suspects)), tree)
            self.unlike_lists(tree)
            for number in range(5):
                paper = stubborn(circuit, menu, suspects, number)
                self.assertIs(paper is None, depth <= number)
                if paper is not None:
                    self.assertIs(is_stubborn(circuit, menu, suspects, number, paper), True)
                    self.check_paper(told, paper, lot, number)
                    self.unlike_lists(paper)
        self.assertEqual(sorted(seen)[:3], [0, 1, 2])

    def check_paper(self, told, paper, lot, number):
        self.assertIn((lot, number), paper)
        for (here, left), picked in paper.items():
            self.assertTrue(any(len({repr(answers[at]) for at in here}) > 1 for answers in told))
            self.assertEqual(len(picked), len(told) if left else 0)
            for part, answers in zip(picked, told):
                keys = {repr(answers[at]) for at in here}
                self.assertIn(part, [tuple(at for at in here if repr(answers[at]) == key) for key in keys])
                self.assertIn((part, left - 1), paper)

    def test_the_document(self):
        suspects = [None, ("g", 0), ("g", 1)]
        self.assertEqual(least_depth(circuit=BOTH, menu=MENU, suspects=suspects), 2)
        tree = telling_tree(circuit=BOTH, menu=MENU, suspects=suspects)
        self.assertEqual(tree, ("ask", 0, [([(0,)], ("ask", 3, [([(0,)], ("left", [1])), ([(1,)], ("left", [0]))])),
                                           ([(1,)], ("left", [2]))]))
        paper = stubborn(circuit=BOTH, menu=MENU, suspects=suspects, number=1)
        self.assertIs(is_stubborn(circuit=BOTH, menu=MENU, suspects=suspects, number=1, value=paper), True)
        self.assertEqual(stubborn(BOTH, MENU, suspects, 0), {((0, 1, 2), 0): []})
        self.assertEqual([stubborn(BOTH, MENU, suspects, number) for number in (2, 3, 10 ** 25)], [None] * 3)

    def test_one_suspect_and_what_is_left(self):
        for suspect in (None, ("g", 1)):
            self.assertEqual(telling_tree(BOTH, MENU, [suspect]), ("left", [0]))
            self.assertEqual([least_depth(BOTH, MENU, [suspect]), stubborn(BOTH, MENU, [suspect], 0)], [0, None])
        alike = [("g", 0), ("x", 0), ("y", 0)]
        self.assertEqual(telling_tree(BOTH, MENU, alike), ("left", [0, 1, 2]))
        # alike ones stay together, and positions are those in the whole list
        tree = telling_tree(BOTH, [MENU[3]], [("g", 0), None, ("x", 0)])
        self.assertEqual(tree, ("ask", 0, [([(0,)], ("left", [0, 2])), ([(1,)], ("left", [1]))]))
        silent = Circuit(["x"], [], [("q", 0, "x")], [])
        self.assertEqual(telling_tree(silent, [[(0,)], []], [None, ("q", 1)]), ("left", [0, 1]))

    def test_8_suspects(self):
        menu = [[letter] for letter in letters_of(4)]
        suspects = faults(FOUR)
        told = [[naive_answer((NAMES, [], [], NAMES), word, None, suspect)[0] for suspect in suspects] for word in menu]
        self.assertEqual(least_depth(FOUR, menu, suspects), 2)
        self.assertEqual(self.check_tree(told, telling_tree(FOUR, menu, suspects), tuple(range(8))), 2)
        self.assertIs(is_stubborn(FOUR, menu, suspects, 1, stubborn(FOUR, menu, suspects, 1)), True)
        # a chain of gates: each word parts one of them from those behind
        made = Circuit(["x", "y", "z"], [("g%d" % k, "low", []) for k in range(7)], [], [])
        self.assertEqual(least_depth(made, [[]], [None] + [("g%d" % k, 1) for k in range(7)]), 0)
        ones = Circuit([], [("g%d" % k, "low", []) for k in range(8)], [], ["g%d" % k for k in range(8)])
        self.assertEqual(least_depth(ones, [[()]], [("g%d" % k, 1) for k in range(8)]), 1)

    def test_deep_trees(self):
        # each word shows one fault alone, so that they are asked one behind the other
        gates = [("n%s" % name, "and", [name, name]) for name in NAMES]
        ends = ["n%s" % name for name in NAMES]
        made = Circuit(NAMES, gates + [("o1", "or", ends[:2]), ("o2", "or", ends[2:]), ("o", "or", ["o1", "o2"])], [], ["o"])
        menu = [[tuple(int(at == k) for k in range(4))] for at in range(4)]
        suspects = [None] + [(wire, 0) for wire in ends]
        self.assertEqual(least_depth(made, menu, suspects), 4)
        self.assertIs(is_stubborn(made, menu, suspects, 3, stubborn(made, menu, suspects, 3)), True)
        self.assertIsNone(stubborn(made, menu, suspects, 4))
        # words that part nothing may be asked as often as one likes
        deep = ("left", [0])
        for _ in range(600):
            deep = ("ask", 2, [([(1,)], deep)])
        self.assertIs(is_telling_tree(made, menu, [None], deep), True)

    def test_trees_of_any_value(self):
        suspects = [None, ("g", 0), ("g", 1)]
        leaf = {at: ("left", [at]) for at in range(3)}
        low = ("ask", 3, [([(0,)], leaf[1]), ([(1,)], leaf[0])])
        good = ("ask", 0, [([(0,)], low), ([(1,)], leaf[2])])
        for value in (good, ("ask", 0, ((((0,),), low), (((1,),), ("left", (2,))))), ("ask", 1, [([(0,)], good[2][0][1]), good[2][1]]),
                      ("ask", 0, [([(0,)], ("ask", 1, [([(0,)], low)])), good[2][1]])):
            self.assertIs(is_telling_tree(circuit=BOTH, menu=MENU, suspects=suspects, value=value), True)
        wrong = [None, 5, True, "left", {}, [], (), list(good), good[:2], good + (0,), ("ask",), ("left",), ("left", [0, 1, 2]), ("left", [0]),
                 ("left", []), ("left", None), ("left", [0, 1, 2], 0), ("right", [0, 1, 2]), ("ask", [0, 1, 2]), ("ask", 4, good[2]), ("ask", -1, good[2]), ("ask", False, good[2]),
                 ("ask", None, good[2]), ("ask", "0", good[2]), ("ask", 0, None), ("ask", 0, []), ("ask", 0, good[2][:1]),
                 ("ask", 0, good[2][::-1]), ("ask", 0, good[2] + good[2][1:]), ("ask", 0, {0: 1, 1: 2}), ("is", 0, good[2]),
                 (None, 0, good[2]), (["ask"], 0, good[2]), ("ask", 3, good[2]), object()]
        wrong += [("ask", 0, [branch, good[2][1]]) for branch in (
            None, [[(0,)], low], ([(0,)],), ([(0,)], low, 0), ([(1,)], low), ([(False,)], low), ([(0, 0)], low), ([[0]], low), (None, low),
            ("0", low), ([(0,), (0,)], low), ([], low), ([(0,)], None), ([(0,)], leaf[0]), ([(0,)], ("left", [0, 1])), ([(0,)], good),
            ([0], low), ({(0,): 1}, low))]
        wrong += [("ask", 0, [good[2][0], ([(1,)], leaf)]) for leaf in (
            ("left", [True]), ("left", ["2"]), ("left", [2, 2]), ("left", 2), ("left", {2: 2}), ["left", [2]], ("left", [0]))]
        for value in wrong:
            self.assertIs(is_telling_tree(BOTH, MENU, suspects, value), False)
        self.assertIs(is_telling_tree(BOTH, MENU, [None, ("g", 0)], ("left", [False, 1])), False)
        self.assertIs(is_telling_tree(BOTH, MENU, [("x", 0), ("g", 0)], ("left", [1, 0])), False)
        self.assertIs(is_telling_tree(BOTH, MENU, [("x", 0), ("g", 0)], ("left", (0, 1))), True)
        self.assertIs(is_telling_tree(BOTH, MENU, [("x", 0), ("g", 0)], ("left", [False, True])), False)
        for value in (("right", [0, 1]), ("ask", [0, 1]), (None, [0, 1]), ("left", [0, 1], []), ["left", [0, 1]]):
            self.assertIs(is_telling_tree(BOTH, MENU, [("x", 0), ("g", 0)], value), False)

    def test_papers_of_any_value(self):
        suspects = [None, ("g", 0), ("g", 1)]
        good = stubborn(BOTH, MENU, suspects, 1)
        key = ((0, 1, 2), 1)
        self.assertEqual(good, {((0, 1), 0): [], ((0, 1, 2), 1): [(0, 1), (0, 1), (0, 1), (0, 2)], ((0, 2), 0): []})
        for value in (good, {at: tuple(good[at]) for at in list(good)[::-1]}, {**good, ((0, 1, 2), 0): []}):
            self.assertIs(is_stubborn(BOTH, MENU, suspects, 1, value), True)
        wrong = [None, 5, True, "", [], (), {}, list(good), list(good.items()), object()]
        wrong += [{at: good[at] for at in good if at != lost} for lost in good]
        wrong += [{**good, key: value} for value in (
            None, [], good[key][:3], good[key] + good[key][:1], good[key][::-1], [[0, 1]] + good[key][1:], [(0, 2)] + good[key][1:],
            [(0, 1, 2)] + good[key][1:], [(2,)] + good[key][1:], [(1, 0)] + good[key][1:], [None] + good[key][1:], "0123",
            [(False, 1)] + good[key][1:], [(0, True)] + good[key][1:], {0: (0, 1)}, [()] + good[key][1:])]
        wrong += [{**good, at: []} for at in (
            ((0,), 0), ((), 0), ((1, 0), 0), ((0, 0), 0), ((0, 0, 1), 0), ((0, 3), 0), ((-1, 0), 0), ((0, 1), -1), ((0, 1), None), (0, 0), None, "01",
            ((0, 1),), ((0, 1), 0, 0), ((1, 2), True), ((1, True), 0), (("0", "1"), 0), ((0, 1), 5))]
        wrong += [{**good, ((0, 1), 0): value} for value in (None, [()], [(0, 1)], 0, "", {})]
        changed = {at: good[at] for at in good if at != key}
        wrong += [{**changed, ((0, 1, 2), True): good[key]}, {**changed, ((False, 1, 2), 1): good[key]},
                  {**changed, ((0, True, 2), 1): good[key]}]
        for value in wrong:
            self.assertIs(is_stubborn(BOTH, MENU, suspects, 1, value), False)
        self.assertEqual([is_stubborn(BOTH, MENU, suspects, number, good) for number in (0, 2, 10 ** 25)], [False] * 3)
        self.assertIs(is_stubborn(BOTH, MENU, suspects, 0, {**good, ((0, 1, 2), 0): []}), True)

    def test_no_paper_for_the_least_depth(self):
        suspects = [None, ("g", 0)]
        parts = [(), (0,), (1,), (0, 1)]
        self.assertEqual(least_depth(BOTH, [MENU[0], MENU[3]], suspects), 1)
        for picked in itertools.product(parts, repeat=2):
            for lower in parts:
                value = {((0, 1), 1): list(picked), (lower, 0): []}
                self.assertIs(is_stubborn(BOTH, [MENU[0], MENU[3]], suspects, 1, value), False)


class JointTest(Case):
    def naive_standings(self, parts, some):
        """The standings as they are come to, with the least words."""
        first = naive_answer(parts, [])[1]
        met = {(first, (first,) * len(some)): []}
        todo = list(met)
        for state, marks in todo:
            for letter in letters_of(len(parts[0])):
                out, there = naive_answer(parts, [letter], state)
                behind = []
                for mark, fault in zip(marks, some):
                    said = (None, None) if mark is None else naive_answer(parts, [letter], mark, fault)
                    behind.append(said[1] if said[0] == out else None)
                standing = (there, tuple(behind))
                if standing not in met:
                    met[standing] = met[state, marks] + [letter]
                    todo.append(standing)
        return met

    def test_one_of_both(self):
        seen = {True: 0, False: 0}
        for seed in range(80):
            parts = random_parts(seed, seed % 3, 1 + seed % 5, seed % 4, 1 + seed % 2)
            circuit = Circuit(*parts)
            some = faults(circuit)
            random.Random(seed).shuffle(some)
            some = some[:1 + seed % 4]
            met = self.naive_standings(parts, some)
            joint = [word for (_, marks), word in met.items() if set(marks) == {None}]
            word, paper = joint_word(circuit, some), joint_paper(circuit, some)
            self.assertEqual(word, joint[0] if joint else None)
            self.assertEqual(paper, None if joint else list(met))
            seen[bool(joint)] += 1
            if paper is not None:
                self.assertIs(is_joint_paper(circuit, some, paper), True)
                for each in words_of(len(parts[0]), 3):
                    shown = [naive_answer(parts, each, None, fault)[0] != naive_answer(parts, each)[0] for fault in some]
                    self.assertFalse(all(shown))
            else:
                self.assertTrue(all(naive_answer(parts, word, None, fault)[0] != naive_answer(parts, word)[0] for fault in some))
                self.assertIs(is_joint_paper(circuit, some, list(met)), False)
        self.assertGreater(min(seen.values()), 15)

    def test_the_document(self):
        self.assertEqual(joint_word(circuit=FLIP, some=[("q", 0), ("q", 1)]), [(1,), (0,)])
        self.assertIsNone(joint_paper(circuit=FLIP, some=[("q", 0), ("q", 1)]))
        self.assertEqual(joint_word(BOTH, [("g", 0), ("g", 1)]), [(0, 0), (1, 1)])
        both = [("x", 0), ("l", 1)]
        made = Circuit(["x"], [("l", "low", []), ("g", "pick", ["l", "x", "l"])], [("q", 0, "x")], ["g"])
        self.assertEqual(joint_word(made, both), None)
        told = joint_paper(made, both)
        self.assertEqual(told, [((0,), ((0,), (0,))), ((1,), ((0,), None)), ((0,), ((0,), None))])
        self.unlike_lists(told)

    def test_2000_standings_and_one_more(self):
        for one, other, many in ((125, 16, 2000), (69, 29, 2001)):
            made = self.two_rings(one, other)
            some = [("sel", 0)]
            if many == 2000:
                told = joint_paper(made, some)
                self.assertEqual([len(told), is_joint_paper(made, some, told), joint_word(made, some)], [2000, True, None])
            else:
                self.refuses(TooMany, ["standings", 2000], joint_word, made, some)
                self.refuses(TooMany, ["standings", 2000], joint_paper, made, some)
                told = [(bits_of(at % one, 7), (bits_of(at % other, 7),)) for at in range(many)]
                self.assertIs(is_joint_paper(made, some, told), True)
                self.assertIs(is_joint_paper(made, some, told[:-1]), False)

    def two_rings(self, one, other):
        """A counter that begins again at one limit, with sel stuck at 0 at another one; it tells nothing."""
        made = counter(7, 0, 0)
        names = ["q%d" % k for k in range(7)]
        gates = made.gates() + [("sel", "high", []), ("low", "low", [])] + [("n" + name, "not", [name]) for name in names]
        for label, limit in (("a", one), ("b", other)):
            ahead = "one"
            for name, bit in zip(names, bits_of(limit - 1, 7)):
                gates.append((label + name, "and", [ahead, name if bit else "n" + name]))
                ahead = label + name
        gates.append(("end", "pick", ["sel", "aq6", "bq6"]))
        gates += [("k" + name, "pick", ["end", "low", "t" + name]) for name in names]
        return Circuit([], gates, [(name, 0, "k" + name) for name in names], [])

    def test_any_value(self):
        made = Circuit(["x"], [("l", "low", []), ("g", "pick", ["l", "x", "l"])], [("q", 0, "x")], ["g"])
        some = [("x", 0), ("l", 1)]
        good = joint_paper(made, some)
        for value in (good, tuple(good), good[::-1]):
            self.assertIs(is_joint_paper(circuit=made, some=some, value=value), True)
        wrong = [None, 5, True, "", {}, {row: 1 for row in good}, [], (), object(), good[:2], good[1:], good[::2]]
        zero = (0,)
        wrong += [good + [each] for each in (
            good[0], (zero, (None, None)), (zero,), (zero, (zero,)), (zero, (zero, zero, zero)), (zero, [zero, None]), (zero, None),
            [zero, (zero, None)], ((2,), (zero, None)), ((0, 0), (zero, None)), (0, (zero, None)), (zero, (0, None)), (zero, ((2,), None)),
            (zero, ([0], None)), (zero, ("0", None)), None, "0", 5, (zero, (zero, None), 0), ((), ((), None)))]
        wrong += [[((False,), (zero, zero))] + good[1:], [(zero, ((False,), zero))] + good[1:], good[:2] + [((True,), (zero, None))],
                  [(zero, (zero, False))] + good[1:], [list(row) for row in good]]
        for value in wrong:
            self.assertIs(is_joint_paper(made, some, value), False)
        # standings that are not come to may stand in it, if all that comes of them does
        more = [((1,), ((1,), None)), ((0,), ((1,), None))]
        self.assertIs(is_joint_paper(made, some, good + more), True)
        self.assertIs(is_joint_paper(made, [("x", 0), ("l", 1), ("g", 1)], good), False)

    def test_no_paper_where_they_show_together(self):
        some = [("q", 0)]
        rows = list(itertools.product([(0,), (1,)], [((0,),), ((1,),), (None,)]))
        for many in range(7):
            for value in itertools.combinations(rows, many):
                self.assertIs(is_joint_paper(FLIP, some, value), False)

    def test_four_and_one_more(self):
        self.assertEqual(len(joint_word(FOUR, [(name, 0) for name in NAMES])), 1)
        self.assertIsNone(joint_word(Circuit(NAMES[:3], [], [], NAMES[:1]), [("a", 0), ("b", 0), ("c", 1), ("a", 1)]))
        for call in (joint_word, joint_paper, lambda circuit, some: is_joint_paper(circuit, some, None)):
            self.refuses(InvalidFaults, [None], call, FOUR, [(name, 0) for name in NAMES] + [("a", 1)])


class WrongTest(Case):
    menus = [
        lambda circuit, menu: places_of(circuit, menu, None), lambda circuit, menu: is_cover(circuit, menu, None, None),
        lambda circuit, menu: fewest_tests(circuit, menu, None), lambda circuit, menu: tree_against(circuit, menu, None, None),
        lambda circuit, menu: is_tree_against(circuit, menu, None, None, None),
        lambda circuit, menu: telling_tree(circuit, menu, None), lambda circuit, menu: is_telling_tree(circuit, menu, None, None),
        lambda circuit, menu: least_depth(circuit, menu, None), lambda circuit, menu: stubborn(circuit, menu, None, None),
        lambda circuit, menu: is_stubborn(circuit, menu, None, None, None),
    ]

    def test_menus(self):
        for call in self.menus:
            for value in (None, 5, True, "", {}, [], (), {0: []}, object(), [[(0, 0)]] * 17):
                self.refuses(InvalidMenu, [None], call, BOTH, value)
            for value in (None, 5, "0", [0], [()], [(0,)], [(0, 2)], [(0, True)], [[0, 0]], {(0, 0): 1}, [(0, 1)], ((0, 1),)):
                self.refuses(InvalidMenu, [1], call, BOTH, [[(0, 1)], value, None])
            self.refuses(InvalidMenu, [2], call, BOTH, (((0, 1),), [], ((),), []))
            self.refuses(InvalidMenu, [1], call, BOTH, [[], ()])
            self.refuses(InvalidMenu, [0], call, FIVE, [None])

    def test_faults(self):
        calls = [(lambda some, call=call: call(BOTH, MENU, some), 24) for call in (places_of, fewest_tests)]
        calls += [(lambda some: is_cover(BOTH, MENU, some, None), 24), (lambda some: tree_against(BOTH, MENU, some, 9), 24),
                  (lambda some: is_tree_against(BOTH, MENU, some, 9, None), 24), (lambda some: joint_word(BOTH, some), 4),
                  (lambda some: joint_paper(BOTH, some), 4), (lambda some: is_joint_paper(BOTH, some, None), 4)]
        for call, most in calls:
            for value in (None, 5, True, "", {}, [], (), {("g", 0): 1}, object(), [("g", 0)] * (most + 1)):
                self.refuses(InvalidFaults, [None], call, value)
            for value in (None, 5, "g", ("g",), ["g", 1], ("g", 2), ("g", True), ("z", 0), (["g"], 0), ("g", 0, 0), ("x", 0)):
                self.refuses(InvalidFaults, [1], call, [("x", 0), value, None])
                self.refuses(InvalidFaults, [1], call, (("x", 0), value))

    def test_suspects(self):
        calls = [telling_tree, least_depth, lambda *args: is_telling_tree(*args, None), lambda *args: stubborn(*args, -1),
                 lambda *args: is_stubborn(*args, -1, None)]
        for call in calls:
            for value in (5, True, "", {}, [], (), None, {None: 1}, object(), [None] * 9):
                self.refuses(InvalidSuspects, [None], call, BOTH, MENU, value)
            for value in (5, "g", ("g",), ["g", 1], ("g", 2), ("g", True), ("z", 0), (["g"], 0), ("g", 0, 0), ("x", 0), None, False):
                self.refuses(InvalidSuspects, [2], call, BOTH, MENU, [("x", 0), None, value, 5])
            self.refuses(InvalidSuspects, [None], call, FIVE, [[]], None)

    def test_numbers_and_limits(self):
        some = [("a", 0)]
        for call in (tree_against, lambda *args: is_tree_against(*args, None)):
            for value in (4, -1, True, False, None, "1", (1,), [], 10 ** 20, object()):
                self.refuses_value(InvalidNumber, value, call, FIVE, [[]], some, value)
            self.refuses(TooMany, ["inputs", 4], call, FIVE, [[]], some, 3)
        for call in (stubborn, lambda *args: is_stubborn(*args, None)):
            for value in (-1, True, False, None, "1", (1,), [], object()):
                self.refuses_value(InvalidNumber, value, call, FIVE, [[]], some, value)
            self.refuses(TooMany, ["inputs", 4], call, FIVE, [[]], some, 0)
        for call in (places_of, fewest_tests, telling_tree, least_depth, lambda *args: is_cover(*args, None),
                     lambda *args: is_telling_tree(*args, None)):
            self.refuses(TooMany, ["inputs", 4], call, FIVE, [[]], some)
        for call in (joint_word, joint_paper, lambda *args: is_joint_paper(*args, None)):
            self.refuses(TooMany, ["inputs", 4], call, FIVE, some)
        # four inputs are let, states are not counted here
        self.assertEqual(places_of(counter(8, 4), [[(0,) * 4]], [("q0", 1)]), [[0]])

    def test_what_is_passed_stays(self):
        menu, some = [[(0, 0)], [(1, 1)]], [("g", 0), ("x", 1)]
        tree, paper = telling_tree(BOTH, menu, some), stubborn(BOTH, menu, some, 0)
        kept = copy.deepcopy((menu, some, tree, paper))
        for _ in range(2):
            self.assertEqual(fewest_tests(BOTH, menu, some), [1])
            self.assertEqual(places_of(BOTH, menu, some), [[1], []])
            is_telling_tree(BOTH, menu, some, tree)
            is_stubborn(BOTH, menu, some, 0, paper)
            tree_against(BOTH, menu, some, 0)
            self.assertEqual((menu, some, telling_tree(BOTH, menu, some), stubborn(BOTH, menu, some, 0)), kept)
