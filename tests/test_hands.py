"""Points [95] and [96], wirewords/hands.py; of point [4] "a plan keeps a pattern for ever, or a spoiler breaks it"."""

import itertools
import random

from tests.helping import ODD, Case, letters_of, random_parts
from tests.machining import FLIP, RARE, WAIT, counter, naive_place, random_pattern, words_of
from tests.papers import is_bits, is_int, is_said, some_variants, variants
from wirewords.boxes import Frame
from wirewords.circuits import Circuit
from wirewords.errors import InvalidWord, OtherWidth, TooMany
from wirewords.hands import (
    Game, count_at, is_plan, is_spoiler, planned, played, spoiled, we_keep, whole_plan, whole_spoiler,
)
from wirewords.patterns import Pattern
from wirewords.refusals import InvalidHands, InvalidNode, InvalidPlan
from wirewords.runs import answer, step
from wirewords.states import states_of

# what comes out is whether y is as x is, or, with a register, as x was
SAME = Circuit(["x", "y"], [("d", "xor", ["x", "y"]), ("n", "not", ["d"])], [], ["n"])
ECHO = Circuit(["x", "y"], [("d", "xor", ["q", "y"]), ("n", "not", ["d"])], [("q", 0, "x")], ["n"])
ONES = Pattern(1, [{(1,): 0}])


def some_games(many, inputs=4):
    """Games of all sorts: early and late, all inputs ours, none, no inputs."""
    for seed in range(many):
        chance = random.Random(seed)
        parts = random_parts(seed, seed % inputs, 1 + seed % 6, seed % 3, 1 + seed % 2)
        circuit = Circuit(*parts)
        ours = [name for name in parts[0] if chance.random() < 0.6]
        chance.shuffle(ours)
        pattern = random_pattern(seed, 1 + seed % 2, 1 + seed % 4, 0.7)
        for early in (False, True):
            yield Game(circuit, ours, pattern, early)


def letter_of(game, own, their):
    known = dict(zip(game.ours() + game.theirs(), own + their))
    return tuple(known[name] for name in game.circuit.inputs())


def goal_of(game, node, own, their):
    """Where a letter leads from a node, None if not on, and what is said."""
    said, state = step(game.circuit, node[0], letter_of(game, own, their))
    place = game.pattern.goes()[node[1]].get(said)
    return (None if place is None else (state, place)), said


def owns(game):
    return letters_of(len(game.ours()))


def others(game):
    return letters_of(len(game.theirs()))


def naive_nodes(game):
    met = [(game.circuit.first(), 0)]
    for node in met:
        for own, their in itertools.product(owns(game), others(game)):
            goal = goal_of(game, node, own, their)[0]
            if goal is not None and goal not in met:
                met.append(goal)
    return sorted(met)


def naive_counts(game):
    """The least counts of the nodes from which they win, by rounds."""
    counts, number = {}, 0
    goals = {node: {(own, their): goal_of(game, node, own, their)[0] for own in owns(game) for their in others(game)} for node in naive_nodes(game)}
    while True:
        fresh = []
        for node in goals:
            bad = {pair: goal is None or goal in counts for pair, goal in goals[node].items()}
            if game.early:
                falls = all(any(bad[(own, their)] for their in others(game)) for own in owns(game))
            else:
                falls = any(all(bad[(own, their)] for own in owns(game)) for their in others(game))
            if falls and node not in counts:
                fresh.append(node)
        if not fresh:
            return counts
        counts.update({node: number for node in fresh})
        number += 1


def is_at(game, node):
    return type(node) is tuple and len(node) == 2 and is_bits(node[0], len(game.circuit.first())) and is_int(node[1], 0, len(game.pattern))


def is_map(value, keys, width):
    return type(value) is dict and set(value) == set(keys) and all(is_bits(key, len(keys[0])) and is_bits(value[key], width) for key in value)


def naive_is_plan(game, value):
    if type(value) is not dict or not all(is_at(game, node) for node in value) or (game.circuit.first(), 0) not in value:
        return False
    for node, chosen in value.items():
        right = is_bits(chosen, len(game.ours())) if game.early else is_map(chosen, others(game), len(game.ours()))
        if not right:
            return False
        for their in others(game):
            if goal_of(game, node, chosen if game.early else chosen[their], their)[0] not in value:
                return False
    return True


def naive_is_spoiler(game, value):
    if type(value) is not dict or not all(is_at(game, node) for node in value) or (game.circuit.first(), 0) not in value:
        return False
    if not all(type(told) is tuple and len(told) == 2 and is_int(told[0], 0) for told in value.values()):
        return False
    for node, (count, chosen) in value.items():
        right = is_map(chosen, owns(game), len(game.theirs())) if game.early else is_bits(chosen, len(game.theirs()))
        if not right:
            return False
        for own in owns(game):
            goal = goal_of(game, node, own, chosen[own] if game.early else chosen)[0]
            if goal is not None and (goal not in value or value[goal][0] >= count):
                return False
    return True


class GameTest(Case):
    def test_parts(self):
        circuit = Circuit(["x", "y", "z"], [], [], ["x"])
        game = Game(circuit, ["z", "x"], RARE)
        self.assertTrue(game.circuit is circuit and game.pattern is RARE and game.early is False)
        self.assertEqual([game.ours(), game.theirs(), Game(circuit, (), RARE).theirs()], [["x", "z"], ["y"], ["x", "y", "z"]])
        self.assertEqual([Game(circuit=circuit, ours=("y",), pattern=RARE, early=True).early, Game(circuit, ["x", "y", "z"], RARE).theirs()], [True, []])
        for told in (game.ours, game.theirs, game.nodes):
            told().append("x")
        self.assertEqual([game.ours(), game.theirs(), game.nodes()], [["x", "z"], ["y"], [((), 0), ((), 1)]])
        ours = ["x"]
        kept = Game(circuit, ours, RARE)
        ours.append("y")
        self.assertEqual(kept.ours(), ["x"])

    def test_equal(self):
        circuit = Circuit(["x", "y"], [], [], ["x"])
        game = Game(circuit, ["x", "y"], RARE)
        self.assertIs(game == Game(Circuit(["x", "y"], [], [], ["x"]), ("y", "x"), Pattern(1, RARE.goes()), False), True)
        for other in (Game(Circuit(["x", "y"], [], [], ["y"]), ["x", "y"], RARE), Frame(circuit, [], []), Game(circuit, ["x"], RARE), Game(circuit, ["x", "y"], ONES), Game(circuit, ["x", "y"], RARE, True), game.turned(), circuit, None, RARE,
                      Game(Circuit(["y", "x"], [], [], ["x"]), ["x", "y"], RARE)):
            self.assertIs(game == other, False)
            self.assertIs(game != other, True)
        self.assertEqual([game.turned().early, game.turned().turned() == game, game.turned() == Game(circuit, ["y", "x"], RARE, True), game.early],
                         [True, True, True, False])

    def test_nodes(self):
        for game in some_games(60):
            self.assertEqual(game.nodes(), naive_nodes(game))
        self.assertEqual(Game(ECHO, ["y"], ONES).nodes(), [((0,), 0), ((1,), 0)])
        self.assertEqual(Game(SAME, ["y"], Pattern(1, [{}])).nodes(), [((), 0)])

    def test_wrong_hands(self):
        wide = Pattern.any_of(2)
        for value in (None, 1, True, "x", "", {}, {"x": 1}, object(), {"x"}):
            self.refuses(InvalidHands, [None], Game, ECHO, value, wide)
        for value in (None, 0, True, "", "z", "q", "d", "x", ("y",), ["y"], {}, object()):
            self.refuses(InvalidHands, [1], Game, ECHO, ["x", value, None], wide)
            self.refuses(InvalidHands, [1], Game, early=True, pattern=wide, ours=("x", value), circuit=ECHO)

    def test_widths_and_limits(self):
        five = Circuit(list("abcde"), [], [], ["a"])
        self.refuses(OtherWidth, [2, 1], Game, five, ["a"], Pattern.any_of(2))
        self.refuses(OtherWidth, [1, 0], Game, Circuit(["x"]), [], RARE)
        self.refuses(TooMany, ["inputs", 4], Game, five, [], RARE)
        self.refuses(InvalidHands, [0], Game, five, ["f"], Pattern.any_of(2))
        self.assertEqual(len(Game(Circuit(list("abcd"), [], [], ["a"]), ["d"], RARE).ours()), 1)
        # 250 states by 2 places are 500 nodes; one more place ahead of them makes 501
        many = counter(8, limit=250)
        twos = Pattern(1, [{(0,): 1, (1,): 1}, {(0,): 0, (1,): 0}])
        self.assertEqual(len(Game(many, [], twos).nodes()), 250)
        three = Pattern(1, [{(0,): 1, (1,): 1}, {(0,): 2, (1,): 2}, {(0,): 3, (1,): 3}, {(0,): 0, (1,): 0}])
        self.assertEqual(len(Game(many, [], three).nodes()), 500)
        more = Pattern(1, [{(0,): 1, (1,): 1}] + [{(0,): 1 + at % 4, (1,): 1 + at % 4} for at in range(1, 5)])
        self.refuses(TooMany, ["nodes", 500], Game, many, ["x0"], more)
        self.refuses(TooMany, ["inputs", 4], Game, counter(8, inputs=5, limit=250), [], more)
        self.assertIs(we_keep(Game(many, ["x0"], three)), True)


class PlanTest(Case):
    def test_one_of_both(self):
        seen = {True: 0, False: 0}
        for game in some_games(150):
            counts, start = naive_counts(game), (game.circuit.first(), 0)
            right = start not in counts
            plan, spoiler = whole_plan(game), whole_spoiler(game)
            seen[right] += 1
            self.assertEqual([we_keep(game), plan is None, spoiler is None], [right, not right, right])
            for node in game.nodes():
                self.assertEqual(count_at(game, node), counts.get(node))
            if right:
                self.assertEqual([list(plan), naive_is_plan(game, plan), is_plan(game, plan)], [sorted(set(game.nodes()) - set(counts)), True, True])
                self.check_least_plan(game, plan)
            else:
                self.assertEqual({node: count for node, (count, _) in spoiler.items()}, counts)
                self.assertEqual([list(spoiler), naive_is_spoiler(game, spoiler), is_spoiler(game, spoiler)], [sorted(counts), True, True])
                self.check_least_spoiler(game, spoiler)
            self.unlike_lists(plan)
            self.unlike_lists([each[1] for each in (spoiler or {}).values()])
        self.assertGreater(min(seen.values()), 40)

    def check_least_plan(self, game, plan):
        for node, chosen in plan.items():
            if game.early:
                right = [own for own in owns(game) if all(goal_of(game, node, own, their)[0] in plan for their in others(game))][0]
            else:
                right = {their: [own for own in owns(game) if goal_of(game, node, own, their)[0] in plan][0] for their in others(game)}
            self.assertEqual(chosen, right)

    def check_least_spoiler(self, game, spoiler):
        for node, (count, chosen) in spoiler.items():
            def bad(own, their):
                goal = goal_of(game, node, own, their)[0]
                return goal is None or goal in spoiler and spoiler[goal][0] < count
            if game.early:
                right = {own: [their for their in others(game) if bad(own, their)][0] for own in owns(game)}
            else:
                right = [their for their in others(game) if all(bad(own, their) for own in owns(game))][0]
            self.assertEqual(chosen, right)

    def test_late_and_early(self):
        # who sees x can be as it; who chooses first can not
        late = Game(SAME, ["y"], ONES)
        self.assertEqual([whole_plan(late), we_keep(late.turned())], [{((), 0): {(0,): (0,), (1,): (1,)}}, False])
        self.assertEqual(whole_spoiler(late.turned()), {((), 0): (0, {(0,): (1,), (1,): (0,)})})
        # what x was is known in the state
        early = Game(ECHO, ["y"], ONES, True)
        self.assertEqual(whole_plan(early), {((0,), 0): (0,), ((1,), 0): (1,)})
        self.assertEqual(whole_spoiler(Game(ECHO, ["x"], ONES)), {((0,), 0): (0, (1,)), ((1,), 0): (0, (0,))})

    def test_counts(self):
        # they can keep us for a while: places 0 to 2 lead on by one letter, the last one by none
        run = Pattern(1, [{(1,): 1}, {(1,): 2}, {}])
        game = Game(SAME, ["y"], run)
        self.assertEqual(whole_spoiler(game), {((), 0): (2, (0,)), ((), 1): (1, (0,)), ((), 2): (0, (0,))})
        self.assertEqual([count_at(game=game, node=((), at)) for at in range(3)], [2, 1, 0])
        self.assertEqual(count_at(Game(SAME, ["y"], ONES), ((), 0)), None)

    def test_all_ours_none_and_no_inputs(self):
        for early in (False, True):
            ours, theirs = Game(FLIP, ["x"], RARE, early), Game(FLIP, [], RARE, early)
            self.assertEqual([we_keep(ours), we_keep(theirs)], [True, False])
            bare = Game(Circuit([], [("n", "not", ["q"])], [("q", 0, "n")], ["q"]), [], RARE, early)
            self.assertEqual([we_keep(bare), len(bare.nodes()), planned(bare).inputs()], [True, 3, []])
        self.assertEqual(whole_plan(Game(FLIP, ["x"], RARE))[((0,), 0)], {(): (0,)})
        self.assertEqual(whole_plan(Game(FLIP, ["x"], RARE, True))[((0,), 0)], (0,))
        self.assertEqual(whole_spoiler(Game(FLIP, [], RARE))[((0,), 0)], (1, (1,)))
        self.assertEqual(whole_spoiler(Game(FLIP, [], RARE, True))[((0,), 0)], (1, {(): (1,)}))

    def test_wrong_nodes(self):
        game = Game(ECHO, ["y"], RARE)
        for value in ODD + [((0,), 2), ((0,), -1), ((2,), 0), ((True,), 0), ((0,), False), [(0,), 0], ((0,),), ((0,), 0, 0), ((0, 0), 0), ([0], 0)]:
            self.refuses_value(InvalidNode, value, count_at, game, value)
        # a node that is not come to
        self.refuses(InvalidNode, [((1,), 0)], count_at, Game(ECHO, ["y"], Pattern(1, [{}])), ((1,), 0))


class JudgedTest(Case):
    def test_plans_of_any_value(self):
        seen = {True: 0, False: 0}
        for game in some_games(60, 3):
            told = whole_plan(game)
            if told is None:
                told = {node: (0,) * len(game.ours()) if game.early else {their: (0,) * len(game.ours()) for their in others(game)} for node in game.nodes()}
            for value in [told] + some_variants(told, 40) + ODD:
                right = naive_is_plan(game, value)
                self.assertIs(is_plan(game, value), right)
                seen[right] += 1
        self.assertGreater(min(seen.values()), 50)

    def test_spoilers_of_any_value(self):
        seen = {True: 0, False: 0}
        for game in some_games(60, 3):
            told = whole_spoiler(game)
            if told is None:
                told = {node: (at, {own: (0,) * len(game.theirs()) for own in owns(game)} if game.early else (0,) * len(game.theirs()))
                        for at, node in enumerate(game.nodes())}
            for value in [told] + some_variants(told, 40) + ODD:
                right = naive_is_spoiler(game, value)
                self.assertIs(is_spoiler(game, value), right)
                seen[right] += 1
        self.assertGreater(min(seen.values()), 50)

    def test_plans_with_fewer_and_more_nodes(self):
        game = Game(ECHO, ["x", "y"], ONES, True)
        # x held at 0: the state with 1 is not needed; it may stand there all the same
        fewer = {((0,), 0): (0, 0)}
        self.assertEqual([is_plan(game=game, value=fewer), is_plan(game, {**fewer, ((1,), 0): (0, 1)}), is_plan(game, {((0,), 0): (1, 0)}), is_plan(game, {})],
                         [True, True, False, False])
        held = Game(ECHO, ["x", "y"], Pattern(1, [{(1,): 0}, {(0,): 1}]), True)
        # place 1 is never come to
        self.assertEqual([is_plan(held, {**fewer, ((1,), 1): (0, 0)}), is_plan(held, {**fewer, ((1,), 1): (1, 0), ((0,), 1): (0, 1)})], [False, True])
        run = Game(SAME, ["y"], Pattern(1, [{(1,): 1}, {}, {(1,): 2}]))
        more = {((), 0): (7, (1,)), ((), 1): (3, (0,))}
        self.assertEqual([is_spoiler(game=run, value=more), is_spoiler(run, {**more, ((), 1): (7, (0,))}), is_spoiler(run, {((), 0): (7, (1,))})], [True, False, False])
        self.assertIs(is_spoiler(run, {**more, ((), 2): (9, (0,))}), False)
        self.assertIs(is_spoiler(run, {((), 0): (10 ** 25, (1,)), ((), 1): (0, (0,))}), True)


class PlayTest(Case):
    def words(self, width, seed):
        chance = random.Random(seed)
        yield []
        for length in (1, 3, 8):
            yield [chance.choice(letters_of(width)) for _ in range(length)]

    def test_played(self):
        found = 0
        for seed, game in enumerate(some_games(100)):
            plan = whole_plan(game)
            if plan is None:
                continue
            found += 1
            for word in self.words(len(game.theirs()), seed):
                told, node, right = played(game, plan, word), (game.circuit.first(), 0), []
                for their in word:
                    own = plan[node] if game.early else plan[node][their]
                    right.append(letter_of(game, own, their))
                    node = goal_of(game, node, own, their)[0]
                self.assertEqual([told, played(game, plan, tuple(word))], [right, right])
                self.assertIsNotNone(naive_place(game.pattern, answer(game.circuit, told)))
        self.assertGreater(found, 50)

    def test_spoiled(self):
        found = 0
        for seed, game in enumerate(some_games(100)):
            spoiler = whole_spoiler(game)
            if spoiler is None:
                continue
            for word in list(self.words(len(game.ours()), seed)) + [[owns(game)[-1]] * 40]:
                told, node, right = spoiled(game, spoiler, word), (game.circuit.first(), 0), []
                for own in word:
                    if node is None:
                        break
                    their = spoiler[node][1][own] if game.early else spoiler[node][1]
                    right.append(letter_of(game, own, their))
                    node = goal_of(game, node, own, their)[0]
                self.assertEqual(told, right)
                self.assertIs(naive_place(game.pattern, answer(game.circuit, told)) is None, node is None)
                if len(word) == 40:
                    self.assertIsNone(node)
                    self.assertLessEqual(len(told), count_at(game, (game.circuit.first(), 0)) + 1)
                    found += 1
        self.assertGreater(found, 50)

    def test_wrong_ones(self):
        late, early = Game(SAME, ["y"], ONES), Game(SAME, ["y"], ONES, True)
        plan, spoiler = whole_plan(late), whole_spoiler(early)
        self.assertEqual([played(game=late, plan=plan, word=[(1,), (0,)]), spoiled(game=early, spoiler=spoiler, word=[(1,), (0,)])], [[(1, 1), (0, 0)], [(0, 1)]])
        for value in ODD + [spoiler, {((), 0): {(0,): (0,)}}]:
            self.refuses_value(InvalidPlan, value, played, late, value, None)
        for value in ODD + [plan, {((), 0): (0, {(0,): (0,), (1,): (0,)})}]:
            self.refuses_value(InvalidPlan, value, spoiled, early, value, None)
        for value in (None, 1, "1", [1], [(2,)], [(True,)], [()], [(0, 0)], [[0]], {(0,): 1}, (0,)):
            self.refuses_value(InvalidWord, value, played, late, plan, value)
            self.refuses_value(InvalidWord, value, spoiled, early, spoiler, value)
        # words have the width of those that choose them
        three = Circuit(["x", "y", "z"], [("d", "xor", ["x", "y"]), ("n", "not", ["d"])], [], ["n"])
        game = Game(three, ["y"], ONES)
        self.assertEqual(played(game, whole_plan(game), [(1, 0)]), [(1, 1, 0)])
        self.refuses(InvalidWord, [[(1,)]], played, game, whole_plan(game), [(1,)])


class PlannedTest(Case):
    def test_answers_as_is_played(self):
        found = 0
        for seed, game in enumerate(some_games(200)):
            plan = whole_plan(game)
            if plan is None:
                self.assertIsNone(planned(game))
                continue
            if len(game.theirs()) > 2:
                self.refuses(TooMany, ["inputs", 2], planned, game)
                continue
            if len(plan) > 16:
                self.refuses(TooMany, ["nodes", 16], planned, game)
                continue
            made = planned(game)
            self.assertEqual([made.inputs(), len(made.outputs())], [game.theirs(), len(game.circuit.outputs())])
            self.assertLessEqual(len(states_of(made)), len(plan))
            for word in words_of(len(game.theirs()), 3):
                self.assertEqual(answer(made, word), answer(game.circuit, played(game, plan, word)))
                self.assertTrue(answer(made, word) in game.pattern)
            found += 1
        self.assertGreater(found, 100)

    def test_names_of_inputs_are_kept(self):
        names = ["w0", "q0"]
        circuit = Circuit(names + ["x0"], [("d", "xor", ["w0", "x0"]), ("e", "xor", ["r", "q0"]), ("g", "xor", ["d", "e"]), ("n", "not", ["g"])],
                          [("r", 0, "q0")], ["n"])
        game = Game(circuit, ["x0"], ONES)
        self.assertEqual(planned(game).inputs(), names)
        for word in words_of(2, 2):
            self.assertEqual(answer(planned(game), word), [(1,)] * len(word))

    def test_limits_in_their_sequence(self):
        names = list("abc")
        wide = Circuit(names + ["d"], [], [], ["a", "b", "d"])
        self.refuses(TooMany, ["inputs", 2], planned, Game(wide, ["d"], Pattern.any_of(3)))
        self.refuses(TooMany, ["outputs", 2], planned, Game(wide, ["a", "b"], Pattern.any_of(3)))
        self.assertIsNone(planned(Game(wide, ["d"], Pattern(3, [{}]))))
        any_of = Pattern.any_of(1)
        self.assertEqual(len(states_of(planned(Game(counter(4), [], any_of)))), 16)
        self.refuses(TooMany, ["nodes", 16], planned, Game(counter(5, limit=17), [], any_of))
        self.refuses(TooMany, ["outputs", 2], planned, Game(counter(5, limit=17, outputs=3), [], Pattern.any_of(3)))
        # all nodes of the whole plan count, also those that it does not come to
        loose = Pattern(1, [{(0,): at, (1,): 16} for at in range(1, 17)] + [{(0,): 16, (1,): 16}])
        game = Game(Circuit(["x"], [], [], ["x"]), ["x"], loose)
        self.assertEqual(len(whole_plan(game)), 17)
        self.refuses(TooMany, ["nodes", 16], planned, game)

    def test_repeated_and_unchanged(self):
        for game in some_games(12):
            texts = [repr(game.circuit), repr(game.pattern), game.ours()]
            for call in (we_keep, whole_plan, whole_spoiler, planned if len(game.theirs()) < 3 else we_keep, Game.nodes):
                self.assertEqual(call(game), call(game))
            self.assertEqual([repr(game.circuit), repr(game.pattern), game.ours()], texts)
        self.assertTrue(is_said([(0,)], 1) and len(list(variants({}))) > 3 and WAIT != FLIP)
