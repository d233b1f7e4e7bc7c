"""Points [32] to [37], the functions of settling, and of point [4] "Settles or not"."""

import itertools
import unittest

from tests.helping import Case, letters_of
from tests.tangling import (
    GATED,
    HOLD,
    LOOP,
    PAIR,
    TURNING,
    all_naive_rests,
    held_at,
    naive_come_to,
    naive_turns,
    random_tangle,
    runs_up_to,
    some_tangles,
)
from wirewords.errors import InvalidLetter, InvalidStanding
from wirewords.settling import (
    are_two_rests,
    come_to,
    is_loss,
    is_miss,
    is_plain,
    is_ranks,
    is_steady,
    is_swing,
    latch,
    loss,
    miss,
    odd_one,
    ranks,
    rest,
    rests,
    settles,
    shortest_run,
    swing,
    two_rests,
)
from wirewords.tangles import Tangle

BOTH = (1, 1, 0, 0)
STILL = Tangle(["x"], [("a", "high", []), ("b", "and", ["a", "x"])])


def led(web, standing, run):
    """Where a run leads; it must be one."""
    for gate in run:
        standing = web[standing][gate]
    return standing


class ComeToTest(Case):
    def test_standings_and_shortest_runs(self):
        for made in some_tangles(40, 4):
            for letter, standing in held_at(made):
                web = naive_turns(made, letter)
                met = naive_come_to(web, standing)
                self.assertEqual(come_to(made, letter, standing), sorted(met))
                still = any(not web[here] for here in met)
                told = shortest_run(made, letter, standing)
                if not still:
                    self.assertIsNone(told)
                else:
                    firsts = (run for run, here in runs_up_to(web, standing, 16) if not web[here])
                    self.assertEqual(told, next(firsts))

    def test_the_document(self):
        self.assertEqual(shortest_run(tangle=HOLD, letter=(0, 0), standing=BOTH), ["m", "q"])
        self.assertEqual(come_to(tangle=GATED, letter=(1, 1), standing=(0,)), [(0,), (1,)])
        self.assertEqual(shortest_run(GATED, (1, 1), (1,)), [])
        self.assertIsNone(shortest_run(TURNING, (), (0,)))


class SettlesTest(Case):
    def test_one_of_both_against_all_sets_of_standings(self):
        for made in some_tangles(90, 3):
            expected = all_naive_rests(made)
            for letter, standing in held_at(made):
                found = expected[letter, standing]
                self.assertEqual(rest(made, letter, standing), found)
                self.assertIs(settles(made, letter, standing), found is not None)
                self.check_papers(made, letter, standing, found is not None)

    def test_papers_of_greater_tangles(self):
        for seed in range(12):
            made = random_tangle(seed, 1, 4 + seed % 3)
            for letter, standing in held_at(made)[::7]:
                self.check_papers(made, letter, standing, settles(made, letter, standing))

    def check_papers(self, made, letter, standing, settled):
        told = ranks(made, letter, standing)
        lap, pair = swing(made, letter, standing), two_rests(made, letter, standing)
        self.assertIs(told is not None, settled)
        self.assertIs(lap is not None or pair is not None, not settled)
        if settled:
            self.assertIs(is_ranks(made, letter, standing, told), True)
            self.assertEqual(list(told), sorted(told))
            self.check_ranks(made, letter, standing, told)
        if lap is not None:
            self.assertIs(is_swing(made, letter, standing, lap), True)
            self.assertLessEqual(len(lap[0]) + len(lap[1]), 2000)
            self.check_swing(made, letter, standing, lap)
        if pair is not None:
            self.assertIs(are_two_rests(made, letter, standing, pair), True)
            web = naive_turns(made, letter)
            ends = [led(web, standing, run) for run in pair]
            self.assertNotEqual(ends[0], ends[1])
            self.assertEqual([web[end] for end in ends], [{}, {}])
        self.assertEqual([ranks(made, letter, standing), swing(made, letter, standing)], [told, lap])
        self.assertEqual(two_rests(made, letter, standing), pair)

    def check_ranks(self, made, letter, standing, told):
        web = naive_turns(made, letter)
        self.assertIn(standing, told)
        self.assertEqual([told[here] for here in told if not web[here]], [(0, None)])
        for here in told:
            for gate, there in web[here].items():
                self.assertTrue(told[there][0] < told[here][0] or gate != told[here][1] and told[there] == told[here])
            if web[here]:
                self.assertIn(told[here][1], web[here])

    def check_swing(self, made, letter, standing, lap):
        web = naive_turns(made, letter)
        begun = led(web, standing, lap[0])
        met = [led(web, begun, lap[1][:k]) for k in range(len(lap[1]) + 1)]
        self.assertTrue(lap[1])
        self.assertEqual(met[-1], begun)
        for gate in made.names():
            self.assertTrue(gate in lap[1] or any(gate not in web[here] for here in met))

    def test_the_document(self):
        self.assertIs(settles(tangle=HOLD, letter=(0, 0), standing=BOTH), False)
        self.assertEqual(rest(tangle=HOLD, letter=(1, 0), standing=(0, 0, 0, 0)), (1, 0, 1, 0))
        self.assertIs(is_swing(tangle=HOLD, letter=(0, 0), standing=BOTH, value=([], list("mnpqmnpq"))), True)
        self.assertEqual(rests(tangle=LOOP), {(): (1, 0)})

    def test_one_gate(self):
        self.assertEqual([rest(TURNING, (), (0,)), two_rests(TURNING, (), (0,))], [None, None])
        self.assertIs(is_swing(TURNING, (), (0,), swing(TURNING, (), (0,))), True)
        self.assertEqual([ranks(GATED, (1, 1), (0,)), ranks(GATED, (0, 0), (1,))],
                         [{(0,): (1, "q"), (1,): (0, None)}, {(1,): (0, None)}])

    def test_a_swing_beside_two_rests(self):
        self.assertIsNotNone(swing(tangle=HOLD, letter=(0, 0), standing=BOTH))
        self.assertIsNotNone(two_rests(tangle=HOLD, letter=(0, 0), standing=BOTH))
        self.assertIsNone(swing(PAIR, (), (0, 0)))
        self.assertIsNotNone(two_rests(PAIR, (), (0, 0)))
        self.assertEqual([swing(PAIR, (), (0, 1)), two_rests(PAIR, (), (0, 1))], [None, None])
        self.assertEqual(rest(PAIR, (), (0, 1)), (0, 1))

    def test_a_lap_that_a_gate_leaves_unfairly_is_no_swing(self):
        # a turns round for ever, but b wants to all the while, and behind its turn a rests
        made = Tangle([], [("a", "pick", ["b", "b", "n"]), ("b", "high", []), ("n", "not", ["a"])])
        for standing in made.standings():
            self.assertIs(settles(made, (), standing), True)
            self.assertIsNone(swing(made, (), standing))
        run = ["n", "a", "n", "a"]
        self.assertEqual(made.places((), (0, 0, 0), run)[-1], (0, 0, 0))
        self.assertIs(is_swing(made, (), (0, 0, 0), ([], run)), False)

    def test_a_gate_that_turns_within_a_group_and_out_of_it(self):
        made = Tangle(["i"], [("a", "high", []), ("b", "pick", ["b", "i", "c"]), ("c", "pick", ["c", "i", "b"])])
        for letter, standing in held_at(made):
            self.check_papers(made, letter, standing, settles(made, letter, standing))
        self.assertIsNotNone(swing(made, (0,), (0, 0, 1)))
        made = random_tangle(151, 1, 5)
        for letter, standing in held_at(made):
            self.check_papers(made, letter, standing, settles(made, letter, standing))

    def test_what_is_told_is_new(self):
        for call in (swing, two_rests):
            told = call(HOLD, (0, 0), BOTH)
            self.unlike_lists(told)
            self.assertIs(type(told), tuple)
            self.assertEqual([type(run) for run in told], [list, list])
        ranks(PAIR, (), (0, 1)).clear()
        self.assertEqual(ranks(PAIR, (), (0, 1)), {(0, 1): (0, None)})


class IsRanksTest(Case):
    def test_other_ranks_are_judged_right(self):
        self.assertIs(is_ranks(GATED, (1, 1), (0,), {(0,): (7, "q"), (1,): (0, None)}), True)
        self.assertIs(is_ranks(GATED, (1, 1), (1,), {(1,): (0, None), (0,): (1, "q")}), True)
        self.assertIs(is_ranks(GATED, (1, 1), (1,), {(1,): (0, None)}), True)

    def test_any_value(self):
        good = {(0,): (1, "q"), (1,): (0, None)}
        wrong = [None, 5, [], (), "q", {}, list(good), list(good.items()), GATED, {(1,): (0, None)}]
        wrong += [{**good, (0,): value} for value in (
            None, 1, (1,), (1, "q", 0), [1, "q"], (0, "q"), (-1, "q"), (True, "q"), ("1", "q"), (1, None), (1, "z"),
            (1, "d"), (1, ["q"]), (1, ("q",)), (0, None), (None, "q"))]
        wrong += [{**good, (1,): value} for value in (
            (0, "q"), (1, None), (False, None), (0, False), (0, ""), None, (0,), [0, None], (0, None, None))]
        wrong += [{**good, key: (0, None)} for key in ((2,), (True, 0), (0, 0), "q", 0, None, ())]
        wrong += [{(False,): (1, "q"), (1,): (0, None)}, {(0,): (1, "q"), (True,): (0, None)}, {(0,): (1, "q")}]
        for value in wrong:
            self.assertIs(is_ranks(GATED, (1, 1), (0,), value), False)

    def test_each_condition(self):
        made = Tangle([], [("a", "pick", ["b", "b", "n"]), ("b", "high", []), ("n", "not", ["a"])])
        good = ranks(made, (), (0, 0, 0))
        self.assertEqual(len(good), 8)
        group = [here for here in good if here[1] == 0]
        self.assertEqual(len({good[here] for here in group}), 1)
        for here in group:
            # a greater count, or another helper, within a group that leads round
            self.assertIs(is_ranks(made, (), (0, 0, 0), {**good, here: (good[here][0] + 1, "b")}), False)
            for gate in ("a", "n", "z", None):
                self.assertIs(is_ranks(made, (), (0, 0, 0), {**good, here: (good[here][0], gate)}), False)
        for lost in good:
            self.assertIs(is_ranks(made, (), (0, 0, 0), {here: good[here] for here in good if here != lost}), False)
        # a still one with a count above 0
        self.assertIs(is_ranks(GATED, (1, 1), (0,), {(0,): (7, "q"), (1,): (1, None)}), False)
        # two still ones
        self.assertIs(is_ranks(PAIR, (), (0, 1), {(0, 1): (0, None), (1, 0): (0, None)}), False)
        self.assertIs(is_ranks(PAIR, (), (0, 1), {(0, 1): (0, None)}), True)

    def test_helpers_of_a_group(self):
        # while a is 1, n turns round; the turns of a and of b lead on
        turning = Tangle([], [("a", "low", []), ("b", "low", []), ("n", "pick", ["n", "z", "a"]), ("z", "low", [])])
        good = ranks(turning, (), (1, 1, 0, 0))
        group = [(1, 1, 0, 0), (1, 1, 1, 0)]
        self.assertEqual(good[group[0]], good[group[1]])
        count = good[group[0]][0]
        for helpers, right in ((("a", "a"), True), (("b", "b"), True), (("a", "b"), False), (("b", "a"), False),
                               (("n", "n"), False), (("a", "n"), False), (("n", "a"), False)):
            value = {**good, group[0]: (count, helpers[0]), group[1]: (count, helpers[1])}
            self.assertIs(is_ranks(turning, (), (1, 1, 0, 0), value), right)

    def test_exactly_if_it_settles(self):
        # of all small ranks none is judged right where it does not settle
        for made in (PAIR, TURNING):
            names = [None] + made.names()
            for standing in made.standings():
                keys = made.standings()
                found = False
                for picks in itertools.product([None] + list(itertools.product(range(3), names)), repeat=len(keys)):
                    value = {key: pick for key, pick in zip(keys, picks) if pick is not None}
                    found = found or is_ranks(made, (), standing, value)
                self.assertIs(found, settles(made, (), standing))


class IsSwingTest(Case):
    def test_any_value(self):
        lap = list("mnpqmnpq")
        self.assertIs(is_swing(HOLD, (0, 0), BOTH, ((), tuple(lap))), True)
        self.assertIs(is_swing(HOLD, (0, 0), BOTH, (["n", "m", "p", "q"], lap[4:] + lap[:4])), True)
        for value in (None, 5, "mn", [], (), [[], lap], ([],), ([], lap, []), ([], None), (None, lap), ([], []), ([], "mnpqmnpq"),
                      ([], lap[:-1]), ([], lap + ["m"]), ([], lap[:4]), (["p"], lap), (["m"], lap), ([], ["m", "q"]),
                      ([], [["m"]] + lap[1:]), ([], [None]), ([], {"m": 1}), ("", lap), ([], lap[::-1]), object()):
            self.assertIs(is_swing(HOLD, (0, 0), BOTH, value), False)
        self.assertIs(is_swing(HOLD, (0, 0), BOTH, (lap, lap)), True)
        # at a still standing no gate wants to turn, but an empty lap is none
        self.assertIs(is_swing(GATED, (0, 0), (1,), ([], [])), False)

    def test_two_rests(self):
        for value in (([], []), (["a"], ["a"]), (["a"], []), ([], ["a"]), [["a"], ["b"]], (["a"],), (["a"], ["b"], []), None,
                      "ab", (["a"], None), (["a"], "b"), (["a"], ["z"]), (["a"], [["b"]]), (["a", "b"], ["b"]), {}, object()):
            self.assertIs(are_two_rests(PAIR, (), (0, 0), value), False)
        for value in ((["a"], ["b"]), (("b",), ["a"])):
            self.assertIs(are_two_rests(tangle=PAIR, letter=(), standing=(0, 0), value=value), True)
        self.assertIs(are_two_rests(PAIR, (), (0, 1), ([], [])), False)


class SteadyTest(Case):
    def naive_loss(self, made, letter, standing):
        web = naive_turns(made, letter)
        for length in range(len(web)):
            found = []
            for run, here in runs_up_to(web, standing, length):
                if len(run) == length:
                    found += [(run, gate, other) for gate in web[here] for other in web[here]
                              if gate != other and other not in web[web[here][gate]]]
            if found:
                return min(found)
        return None

    def test_one_of_both(self):
        for made in some_tangles(60, 3):
            for letter, standing in held_at(made):
                told = loss(made, letter, standing)
                self.assertEqual(told, self.naive_loss(made, letter, standing))
                self.assertIs(is_steady(made, letter, standing), told is None)
                if told is not None:
                    self.assertIs(is_loss(made, letter, standing, told), True)
                    self.assertIs(type(told), tuple)

    def test_the_document(self):
        self.assertEqual(loss(tangle=HOLD, letter=(0, 0), standing=BOTH), (["m"], "q", "n"))
        self.assertIs(is_steady(tangle=HOLD, letter=(0, 0), standing=BOTH), False)
        self.assertIs(is_steady(STILL, (1,), (0, 0)), True)
        self.assertIsNone(loss(STILL, (1,), (0, 0)))

    def test_steady_ones_turn_each_gate_equally_often(self):
        for made in some_tangles(60, 3):
            for letter, standing in held_at(made):
                if is_steady(made, letter, standing) and shortest_run(made, letter, standing) is not None:
                    self.assertIs(settles(made, letter, standing), True)
                    web = naive_turns(made, letter)
                    runs = [sorted(run) for run, here in runs_up_to(web, standing, 8) if not web[here]]
                    self.assertEqual(runs, [runs[0]] * len(runs))

    def test_any_value(self):
        self.assertIs(is_loss(tangle=HOLD, letter=(0, 0), standing=BOTH, value=(("m",), "q", "n")), True)
        self.assertIs(is_loss(HOLD, (0, 0), BOTH, (["n"], "p", "m")), True)
        for value in (None, 5, "mqn", [["m"], "q", "n"], (["m"], "q"), (["m"], "q", "n", "n"), (["m"], "n", "n"), (["m"], "q", "q"),
                      ([], "m", "n"), ([], "q", "n"), (["m"], "q", "m"), (["m"], "q", "r"), (["m"], "q", None), (["m"], None, "n"),
                      (["m"], ["q"], "n"), ("m", "q", "n"), (["p"], "q", "n"), (None, "q", "n"), ([None], "q", "n"), {}, object()):
            self.assertIs(is_loss(HOLD, (0, 0), BOTH, value), False)


class PlainTest(Case):
    def test_against_all_sets_of_standings(self):
        for made in some_tangles(90, 3):
            found = all_naive_rests(made)
            odd = [at for at in sorted(found) if found[at] is None or found[at] != found[at[0], made.standings()[0]]]
            self.assertEqual(odd_one(tangle=made), odd[0] if odd else None)
            self.assertIs(is_plain(tangle=made), not odd)
            by_letter = {at[0]: found[at] for at in sorted(found)}
            self.assertEqual(rests(made), None if odd else by_letter)

    def test_the_document(self):
        self.assertEqual([odd_one(GATED), odd_one(LOOP), is_plain(GATED), rests(GATED)], [((0, 0), (1,)), None, False, None])
        self.assertEqual(rests(STILL), {(0,): (1, 0), (1,): (1, 1)})
        self.assertEqual(odd_one(TURNING), ((), (0,)))
        self.assertEqual(odd_one(PAIR), ((), (0, 0)))
        told = rests(STILL)
        told.clear()
        self.assertEqual(list(rests(STILL)), [(0,), (1,)])

    def test_six_gates_and_four_inputs(self):
        names = ["d", "e", "f", "g"]
        made = Tangle(names, [("q%d" % k, "pick", ["e", "dfgdfg"[k], "q%d" % k]) for k in range(6)])
        self.assertEqual(odd_one(made), ((0, 0, 0, 0), (0, 0, 0, 0, 0, 1)))
        told = latch(made, (0, 0, 0, 0), (0,) * 6)
        self.assertEqual([len(told[0]), {len(row) for row in told[1]}], [8, {16}])
        self.assertIs(is_steady(made, (1, 1, 1, 1), (0,) * 6), True)
        self.assertEqual(len(ranks(made, (1, 1, 1, 1), (0,) * 6)), 64)


class LatchTest(Case):
    def naive(self, made, letter, standing, found):
        """The latch, and the least miss, by words in their sequence."""
        letters = letters_of(len(made.inputs()))
        if found[letter, standing] is None:
            return None, [letter]
        met, rows = [found[letter, standing]], []
        behind = {met[0]: [letter]}
        missed = []
        for here in met:
            for each in letters:
                there = found[each, here]
                if there is None:
                    missed.append(behind[here] + [each])
                elif there not in behind:
                    behind[there] = behind[here] + [each]
                    met.append(there)
        if missed:
            return None, min(missed, key=lambda word: (len(word), word))
        rows = [[met.index(found[each, here]) for each in letters] for here in met]
        return (met, rows), None

    def test_one_of_both(self):
        for made in some_tangles(90, 3):
            found = all_naive_rests(made)
            for letter, standing in held_at(made):
                told, missed = self.naive(made, letter, standing, found)
                self.assertEqual(latch(made, letter, standing), told)
                self.assertEqual(miss(made, letter, standing), missed)
                if missed:
                    self.assertIs(is_miss(made, letter, standing, missed), True)
                    for word in self.lesser(made, missed):
                        self.assertIs(is_miss(made, letter, standing, word), False)

    def lesser(self, made, word):
        letters = letters_of(len(made.inputs()))
        for length in range(min(len(word), 3)):
            yield from (list(each) for each in itertools.product(letters, repeat=length))
        if len(word) < 4:
            yield from (list(each) for each in itertools.product(letters, repeat=len(word)) if list(each) < word)

    def test_the_document(self):
        self.assertEqual(miss(tangle=HOLD, letter=(1, 0), standing=(0, 0, 0, 0)), [(1, 0), (1, 1), (0, 0)])
        self.assertEqual(latch(tangle=GATED, letter=(0, 0), standing=(1,)), ([(1,), (0,)], [[0, 1, 0, 0], [1, 1, 1, 0]]))
        self.assertEqual([miss(GATED, (0, 0), (1,)), latch(HOLD, (1, 0), (0, 0, 0, 0))], [None, None])
        self.assertEqual([miss(TURNING, (), (0,)), latch(LOOP, (), (0, 0))], [[()], ([(1, 0)], [[0]])])
        told = latch(GATED, (0, 0), (1,))
        self.unlike_lists(told)
        self.assertIs(type(told), tuple)

    def test_any_value(self):
        good = [(1, 0), (1, 1), (0, 0)]
        at = (HOLD, (1, 0), (0, 0, 0, 0))
        self.assertIs(is_miss(*at, good), True)
        self.assertIs(is_miss(tangle=HOLD, letter=(1, 0), standing=(0, 0, 0, 0), value=tuple(good)), True)
        self.assertIs(is_miss(*at, [(1, 0), (0, 1), (1, 0), (1, 1), (0, 0)]), True)
        for value in (None, 5, "10", [], (), good[:2], good[:1], good + [(0, 0)], good[1:], [(1, 0), (0, 0)], [(1, 1), (0, 0)],
                      [list(each) for each in good], [(1, 0), (1, True), (0, 0)], [(True, 0), (1, 1), (0, 0)],
                      [(1, 0), (1, 1), (0, 2)], [(1, 0), (1,), (0, 0)], [(1, 0), None], {(1, 0): 1}, object()):
            self.assertIs(is_miss(*at, value), False)


class WrongTest(Case):
    def test_letters_and_standings(self):
        plain = (come_to, shortest_run, settles, rest, ranks, swing, two_rests, is_steady, loss, latch, miss)
        judging = (is_ranks, is_swing, are_two_rests, is_loss, is_miss)
        calls = [lambda *args, call=call: call(HOLD, *args) for call in plain]
        calls += [lambda *args, call=call: call(HOLD, *args, None) for call in judging]
        for call in calls:
            for value in ((), (0,), [0, 0], (0, True), (0, 2), None, "00", object()):
                self.refuses_value(InvalidLetter, value, call, value, None)
            for value in ((), (0,) * 3, (0,) * 5, [0] * 4, (0, 0, 0, True), (0, 0, 0, 2), None, "0000", object()):
                self.refuses_value(InvalidStanding, value, call, (0, 0), value)


if __name__ == "__main__":
    unittest.main()
