"""The document's own examples, as far as they have landed."""

import doctest
import unittest

STAGE_1 = """
>>> from wirewords.circuits import Circuit
>>> from wirewords.runs import answer, states_along, step, told, values
>>> flip = Circuit(["x"], [("n", "xor", ["x", "q"])], [("q", 0, "n")], ["n"])
>>> [answer(flip, [(1,), (1,), (0,)]), states_along(flip, [(1,), (1,)]), step(flip, (1,), (1,)), flip.cone("q")]
[[(1,), (0,), (0,)], [(0,), (1,), (0,)], ((0,), (0,)), ['n', 'q', 'x']]
>>> [answer(flip, [(1,), (1,)], stuck=("q", 1)), told(flip, "q", [(1,), (0,)]), values(flip, (0,), (1,))]
[[(0,), (0,)], [0, 1], {'n': 1, 'q': 0, 'x': 1}]
"""

STAGE_1_MADE = """
>>> from wirewords.circuits import Circuit
>>> from wirewords.made import beside, behind, joined, trimmed
>>> from wirewords.runs import answer, states_along, step, told, values
>>> flip = Circuit(["x"], [("n", "xor", ["x", "q"])], [("q", 0, "n")], ["n"])
>>> two = behind(flip, flip)
>>> [two.inputs(), two.outputs(), two.sources("bn"), answer(two, [(1,), (0,), (0,)]), joined(flip, "x", "q").gates()]
[['ax'], ['bn'], ['an', 'bq'], [(1,), (0,), (1,)], [('n', 'xor', ['q', 'q'])]]
"""

STAGE_2 = """
>>> from wirewords.circuits import Circuit
>>> from wirewords.tables import Table, every, held, how_many, least_letter, parting, variable
>>> x, y, z = [variable(["x", "y", "z"], name) for name in ["x", "y", "z"]]
>>> pick = x & y | ~x & z
>>> [pick, how_many(pick), least_letter(pick, 1), "y" in held(pick, "x", 0), every(pick, "x") == y & z]
[Table(['x', 'y', 'z'], [('z', 0, 1), ('y', 0, 1), ('x', 2, 3)], 4), 4, (0, 0, 1), False, True]
>>> odd = Table(["x", "y", "z"], [("z", 0, 1), ("z", 0, 1), ("y", 3, 3)], 4)
>>> [odd.is_least(), odd.least() == z, odd == z, parting(odd, pick)]
[False, True, False, (1, 0, 1)]
>>> from wirewords.gates import are_equal, fixed, parting_of, table_of, without_copies
>>> two = Circuit(["x", "y"], [("a", "and", ["x", "y"]), ("b", "and", ["y", "a"]), ("c", "xor", ["a", "b"])], [("q", 0, "b")], ["b", "c"])
>>> [table_of(two, "b"), are_equal(two, "a", "b"), parting_of(two, "a", "x"), fixed(two)]
[Table(['x', 'y', 'q'], [('y', 0, 1), ('x', 0, 2)], 3), True, ((0,), (1, 0)), {'c': 0}]
>>> without_copies(two)
Circuit(['x', 'y'], [('a', 'and', ['x', 'y']), ('c', 'xor', ['a', 'a'])], [('q', 0, 'a')], ['a', 'c'])
>>> from wirewords.orders import are_bounds, below, best_order, bounds, many, reordered
>>> a, b, c, d = [variable(["a", "c", "b", "d"], name) for name in ["a", "b", "c", "d"]]
>>> pairs = a & b | c & d
>>> [many(pairs), best_order(pairs), len(reordered(pairs, ["a", "b", "c", "d"])), below(pairs, ["c", "a"], "b"), bounds(x & y)[("x", "y", "z")]]
[{'a': 1, 'b': 2, 'c': 2, 'd': 1}, ['a', 'b', 'c', 'd'], 4, 2, 2]
"""

STAGE_3 = """
>>> from wirewords.settling import is_swing, latch, loss, miss, odd_one, rest, rests, settles, shortest_run
>>> from wirewords.tangles import Tangle, look
>>> hold = Tangle(["r", "s"], [("m", "or", ["r", "p"]), ("q", "not", ["m"]), ("n", "or", ["s", "q"]), ("p", "not", ["n"])])
>>> [hold.names(), hold.wanting((0, 0), (1, 1, 0, 0)), look(hold, (1, 0))[-2:], rest(hold, (1, 0), (0, 0, 0, 0))]
[['m', 'n', 'p', 'q'], ['m', 'n'], [(1, 0, None, 0), (1, 0, 1, 0)], (1, 0, 1, 0)]
>>> [settles(hold, (0, 0), (1, 1, 0, 0)), shortest_run(hold, (0, 0), (1, 1, 0, 0)), loss(hold, (0, 0), (1, 1, 0, 0))]
[False, ['m', 'q'], (['m'], 'q', 'n')]
>>> [is_swing(hold, (0, 0), (1, 1, 0, 0), ([], list("mnpqmnpq"))), miss(hold, (1, 0), (0, 0, 0, 0))]
[True, [(1, 0), (1, 1), (0, 0)]]
>>> loop, gated = Tangle([], [("a", "or", ["a", "n"]), ("n", "not", ["a"])]), Tangle(["d", "e"], [("q", "pick", ["e", "d", "q"])])
>>> [look(loop, ()), rests(loop), odd_one(gated), latch(gated, (0, 0), (1,))]
[[(None, None)], {(): (1, 0)}, ((0, 0), (1,)), ([(1,), (0,)], [[0, 1, 0, 0], [1, 1, 1, 0]])]
"""


STAGE_4 = """
>>> from wirewords.circuits import Circuit
>>> flip = Circuit(["x"], [("n", "xor", ["x", "q"])], [("q", 0, "n")], ["n"])
>>> from wirewords.alike import are_alike, is_need_paper, least, need_paper, parting, rounds, stands_for
>>> from wirewords.machines import Machine
>>> from wirewords.states import chained, circuit_of, machine_of
>>> late = Machine.late(1)
>>> [late, late.answer([(1,), (0,), (1,)]), len(chained(late, late)), rounds(late)]
[Machine(1, 1, [[(0, (0,)), (1, (0,))], [(0, (1,)), (1, (1,))]]), [(0,), (1,), (0,)], 4, [[[0, 1]], [[0], [1]], [[0], [1]]]]
>>> wide = Machine(1, 1, [[(1, (0,)), (2, (0,))], [(1, (0,)), (2, (0,))], [(0, (1,)), (2, (1,))]])
>>> [are_alike(wide, late), least(wide) == late, parting(wide.begun(2), late), stands_for(late, wide.begun(2))]
[True, True, [(0,)], 1]
>>> [are_alike(machine_of(circuit_of(wide)), late), need_paper(late, 3), is_need_paper(late, 2, ([[], [(1,)]], {(0, 1): [(0,)]}))]
[True, None, True]
>>> [machine_of(flip), are_alike(machine_of(flip, ("q", 0)), late)]
[Machine(1, 1, [[(0, (0,)), (1, (1,))], [(1, (1,)), (0, (0,))]]), False]
"""

STAGE_5 = """
>>> from wirewords.circuits import Circuit
>>> from wirewords.maps import breaking_word, kept_table, weakest
>>> from wirewords.patterns import Pattern
>>> flip = Circuit(["x"], [("n", "xor", ["x", "q"])], [("q", 0, "n")], ["n"])
>>> rare = Pattern(1, [{(0,): 0, (1,): 1}, {(0,): 0}])
>>> [weakest(flip, rare), breaking_word(flip, rare, rare), kept_table(flip, weakest(flip, rare), rare)]
[Pattern(1, [{(0,): 0, (1,): 1}, {(1,): 0}]), [(1,), (0,)], [((0,), 0, 0), ((1,), 1, 1)]]
>>> from wirewords.rings import further_word, is_late, promise
>>> from wirewords.strongest import strongest
>>> strongest(flip, rare)
Pattern(1, [{(0,): 0, (1,): 1}, {(1,): 2}, {(0,): 3, (1,): 2}, {(0,): 0}])
>>> wait = Circuit(["x"], [("n", "not", ["x"])], [("q", 0, "n")], ["q"])
>>> [is_late(wait), further_word(wait, Pattern.any_of(1), rare), promise(wait, flip, rare, rare)]
[True, [(0,), (0,), (0,)], None]
"""

STAGE_6 = """
>>> from wirewords.circuits import Circuit
>>> from wirewords.faults import classes, faults, hiding, is_hiding, showing
>>> from wirewords.menus import fewest_tests, joint_word, least_depth, places_of, tree_against
>>> both = Circuit(["x", "y"], [("g", "and", ["x", "y"])], [], ["g"])
>>> flip = Circuit(["x"], [("n", "xor", ["x", "q"])], [("q", 0, "n")], ["n"])
>>> [faults(both)[:2], classes(both), showing(both, ("x", 1)), hiding(both, ("g", 0), ("x", 0))]
[[('g', 0), ('g', 1)], [[('g', 0), ('x', 0), ('y', 0)], [('g', 1)], [('x', 1)], [('y', 1)]], [(0, 1)], [((), ())]]
>>> [showing(flip, ("q", 1)), showing(flip, ("q", 0)), joint_word(flip, [("q", 0), ("q", 1)]), is_hiding(flip, ("q", 0), None, [((0,), (0,))])]
[[(0,)], [(1,), (0,)], [(1,), (0,)], False]
>>> menu = [[(0, 0)], [(0, 1)], [(1, 0)], [(1, 1)]]
>>> [places_of(both, menu, faults(both))[1], fewest_tests(both, menu, faults(both)), tree_against(both, menu, faults(both), 3)]
[[0, 1, 2], [1, 2, 3], None]
>>> least_depth(both, menu, [None, ("g", 0), ("g", 1)])
2
"""

STAGE_7 = """
>>> from wirewords.fewest import bits_by, fewest_bits, is_flow, loss
>>> from wirewords.lags import greatest_lags, is_ring, least_beat, moved, ring
>>> from wirewords.wirings import Wiring, answer_of, beat_of, slowest_way
>>> slow = Wiring(["x"], {"a": ("not", 3, [("x", (0, 1))]), "b": ("not", 4, [("a", ())])}, [("b", ())])
>>> fast = moved(slow, {"a": -1, "b": 0})
>>> [beat_of(slow), slowest_way(slow), least_beat(slow), greatest_lags(slow, 4), beat_of(fast), fast.sources("b")]
[7, ('a', 'b'), 4, {'a': -1, 'b': 0}, 4, [('a', (1,))]]
>>> [answer_of(slow, [(1,), (1,), (0,)]), answer_of(fast, [(1,), (1,), (0,)]), ring(slow, 4), is_ring(slow, 3, [("way", ("b",))])]
[[(0,), (1,), (1,)], [(0,), (1,), (1,)], None, True]
>>> split = Wiring(["x"], {"a": ("not", 2, [("x", (0,))])}, [("a", ()), ("a", ())])
>>> [bits_by(split, {"a": -1}), fewest_bits(split, 2), is_flow(split, 2, {("forth", "a"): 1}), loss(split, 2, {("forth", "a"): 1})]
[2, 1, True, 0]
"""

STAGE_8 = """
>>> from wirewords.asked import asking, gap, rows
>>> from wirewords.machines import Machine
>>> from wirewords.resets import apart, homing, meeting, reset, where
>>> from wirewords.trees import depth, is_deep, tree
>>> late, flip = Machine.late(1), Machine(1, 1, [[(0, (0,)), (1, (0,))], [(1, (0,)), (0, (1,))]])
>>> [reset(late), apart(late), reset(flip), apart(flip), meeting(late, 0, 1), homing(flip), where(flip, [(1,)], [(1,)])]
[[(0,)], None, None, [(0, 1)], [(0,)], [(1,)], [0]]
>>> [tree(flip, [0, 1]), depth(flip, [0, 1]), is_deep(flip, [0, 1], 0, {(0, 1): 1})]
[('ask', (1,), {(0,): ('is', 0), (1,): ('is', 1)}), 1, True]
>>> first = ([[]], [[(0,)], [(1,)]])
>>> [gap(late, first), rows(late, first), asking(late)[0][0][0], asking(late)[0][1] == late]
[[(1,)], [[[(0,)], [(0,)]]], [[], [(1,)]], True]
"""

STAGE_9 = """
>>> from wirewords.circuits import Circuit
>>> from wirewords.boxes import Frame, put_in
>>> from wirewords.feeds import choice, enough_lots, fewest_feeds, may_say, may_stand
>>> both = Circuit(["x", "y"], [("g", "and", ["x", "y"])], [], ["g"])
>>> either = Circuit(["x", "y"], [("g", "or", ["x", "y"])], [], ["g"])
>>> frame = Frame(Circuit(["p", "q", "h"], [("o", "and", ["h", "p"])], [], ["o"]), ["p", "q"], ["h"])
>>> [put_in(frame, both).gates(), may_say(frame, both)[(0, 1)], may_stand(frame, both, either)]
[[('ao', 'and', ['bg', 'ap']), ('bg', 'and', ['ap', 'aq'])], [(0,), (1,)], False]
>>> [enough_lots(frame, both), fewest_feeds(frame, both), choice(frame, both, [1])]
[[[1]], 1, {(0,): (0,), (1,): (1,)}]
>>> from wirewords.circuits import Circuit
>>> from wirewords.texts import read, read_word, written, written_word
>>> flip = Circuit(["x"], [("n", "xor", ["x", "q"])], [("q", 0, "n")], ["n"])
>>> print(written(flip), end="")
circuit
inputs x
gate n xor x q
register q 0 n
outputs n
>>> [read(written(flip)) == flip, read_word("01 10"), written_word([(1,), (0,)])]
[True, [(0, 1), (1, 0)], '1 0']
>>> from wirewords.bench import Bench, tried
>>> from wirewords.patterns import Pattern
>>> bench = Bench()
>>> bench["flip"] = flip
>>> bench["rare"] = Pattern(1, [{(0,): 0, (1,): 1}, {(0,): 0}])
>>> [bench.do("make weak weakest flip rare"), bench.note("safe", "keeps", ["flip", "weak", "rare"]), bench.do("answer flip 1 1")]
['done', 'keeps', '1 0']
>>> [bench.do("first flip flip q 1"), bench.do("look safe"), bench.do("renew safe"), bench.do("undo"), bench.do("undo"), bench.do("look safe")]
['done', 'stale', 'breaks', 'renew safe', 'first flip flip q 1', 'holds']
"""


class ExamplesTest(unittest.TestCase):
    def examples(self, text):
        test = doctest.DocTestParser().get_doctest(text, {}, "DOC.md", None, 0)
        said = []
        results = doctest.DocTestRunner(verbose=False).run(test, out=said.append)
        self.assertGreater(results.attempted, 0)
        self.assertEqual(results.failed, 0, "".join(said))

    def test_stage_1(self):
        self.examples(STAGE_1)
        self.examples(STAGE_1_MADE)

    def test_stage_2(self):
        self.examples(STAGE_2)

    def test_stage_3(self):
        self.examples(STAGE_3)

    def test_stage_4(self):
        self.examples(STAGE_4)

    def test_stage_5(self):
        self.examples(STAGE_5)

    def test_stage_6(self):
        self.examples(STAGE_6)

    def test_stage_7(self):
        self.examples(STAGE_7)

    def test_stage_8(self):
        self.examples(STAGE_8)

    def test_stage_9(self):
        self.examples(STAGE_9)


if __name__ == "__main__":
    unittest.main()
