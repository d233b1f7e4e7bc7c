"""Points [73] and [74], wirewords/lags.py; of point [4] "A beat is reached", its first half."""

import itertools
import random

from tests.helping import ODD, Case, letters_of, plain_bit
from tests.papers import is_int, is_listed, some_variants, variants
from tests.test_wirings import SELF, SLOW
from tests.wiring import links, naive_answer_of, random_wiring, some_wirings
from wirewords.alike import are_alike
from wirewords.errors import TooMany
from wirewords.lags import (
    greatest_lags, is_item, is_lags, is_ring, item_told, least_beat, moved, reaches, ring, sequence,
)
from wirewords.refusals import InvalidBeat, InvalidItem, InvalidLags
from wirewords.states import machine_of
from wirewords.wirings import Wiring, answer_of, beat_of, circuit_of, gone, is_way

WRONG_BEATS = [None, -1, True, False, "", "1", (1,), [1], {}, object()]
LONG = Wiring(["x"], {"a": ("not", 2, [("x", (0,) * 24)])}, [("a", ())])
FREE = Wiring(["x"], {"a": ("high", 3, []), "b": ("and", 4, [("a", ()), ("x", ())])}, [("b", ())])


def small_wirings(many, gates=3, bits=5):
    return (wiring for wiring in some_wirings(many * 4, bits) if len(wiring) <= gates)


def uses_of(wiring):
    """The dict from all uses to their sources."""
    told = {("", at): source for at, source in enumerate(wiring.outputs())}
    for name, (_, _, sources) in wiring.gates().items():
        told.update({(name, at): source for at, source in enumerate(sources)})
    return told


def counts_by(wiring, lags):
    """How many bits each use has behind the moves."""
    return {use: len(bits) + lags.get(use[0], 0) - lags.get(wire, 0) for use, (wire, bits) in uses_of(wiring).items()}


def naive_is_lags(wiring, value):
    if type(value) is not dict or set(value) != set(wiring.gates()):
        return False
    return all(is_int(lag, -40, 1) for lag in value.values()) and min(counts_by(wiring, value).values()) >= 0


def all_lags(wiring, least):
    """All lags of a wiring from a number on."""
    names = list(wiring.gates())
    for rows in itertools.product(range(least, 1), repeat=len(names)):
        lags = dict(zip(names, rows))
        if naive_is_lags(wiring, lags):
            yield lags


def naive_beat(wiring, lags):
    """The beat behind the moves, by the greatest delays of ways that end at each gate."""
    gates, counts, uses = wiring.gates(), counts_by(wiring, lags), uses_of(wiring)

    def delay(name):
        bare = [uses[use][0] for use in uses if use[0] == name and counts[use] == 0]
        return gates[name][1] + max([delay(wire) for wire in bare if wire in gates], default=0)

    return max(delay(name) for name in gates)


def naive_moved(wiring, lags, seed):
    """The parts of the wiring behind the moves, gates going in a sequence at random."""
    chance = random.Random(seed)
    held = {use: list(bits) for use, (_, bits) in uses_of(wiring).items()}
    left, gates, uses = dict(lags), wiring.gates(), uses_of(wiring)
    while any(left.values()):
        own = {name: [held[(name, at)] for at in range(len(gates[name][2]))] for name in gates}
        name = chance.choice([name for name in gates if left[name] < 0 and all(own[name])])
        made = plain_bit(gates[name][0], [bits.pop(0) for bits in own[name]])
        for use, (wire, _) in uses.items():
            if wire == name:
                held[use].append(made)
        left[name] += 1
    return {use: (uses[use][0], tuple(bits)) for use, bits in held.items()}


def naive_item(wiring, beat, item):
    """What an item tells, None for what is none; ways are short."""
    if type(item) is not tuple or len(item) < 2 or type(item[0]) is not str:
        return None
    gates = wiring.gates()

    def end(wire):
        return wire if wire in gates else ""

    if item[0] == "source" and len(item) == 3 and type(item[1]) is str and is_int(item[2]):
        source = uses_of(wiring).get(item[1:])
        return None if source is None else (end(source[0]), item[1], len(source[1]))
    if item[0] == "forth" and len(item) == 2 and type(item[1]) is str and item[1] in gates:
        return item[1], "", 0
    if item[0] != "way" or len(item) != 2 or not is_way(wiring, item[1]):
        return None
    way = item[1]
    delay = sum(gates[part][1] for part in way if part in gates)
    if delay <= beat:
        return None
    return end(way[0]), end(way[-1]), sum(min(links(wiring, one, other)) for one, other in zip(way, way[1:])) - 1


def naive_is_ring(wiring, beat, value):
    if not is_listed(value) or not value:
        return False
    told = [naive_item(wiring, beat, item) for item in value]
    if None in told:
        return False
    if any(told[at - 1][1] != start for at, (start, _, _) in enumerate(told)):
        return False
    return sum(number for _, _, number in told) < 0


class LagsTest(Case):
    def test_is_lags(self):
        seen = {True: 0, False: 0}
        for wiring in small_wirings(60):
            for rows in itertools.product(range(-3, 2), repeat=len(wiring)):
                lags = dict(zip(wiring.gates(), rows))
                right = naive_is_lags(wiring, lags)
                self.assertIs(is_lags(wiring, lags), right)
                seen[right] += 1
        self.assertGreater(min(seen.values()), 500)

    def test_limits(self):
        # a gate without sources may go as often as lags let
        self.assertIs(is_lags(wiring=FREE, value={"a": -40, "b": 0}), True)
        self.assertIs(is_lags(FREE, {"b": 0, "a": 0}), True)
        for value in ({"a": -41, "b": 0}, {"a": 1, "b": 0}, {"a": 0}, {"a": 0, "b": 0, "x": 0}, {"a": 0, "b": 0, "": 0},
                      {"a": 0, "b": -1}, {"a": False, "b": 0}, {"a": None, "b": 0}, {"a": "0", "b": 0}, [("a", 0), ("b", 0)], ["a", "b"], {},
                      {("a",): 0, "b": 0}, {None: 0, "b": 0}, None, 0, "ab"):
            self.assertIs(is_lags(FREE, value), False)
            for call in (sequence, moved, lambda wiring, lags: reaches(wiring, 1, lags)):
                self.refuses_value(InvalidLags, value, call, FREE, value)
        self.assertIs(is_lags(LONG, {"a": -24}), True)
        self.assertIs(is_lags(LONG, {"a": -25}), False)

    def test_any_value(self):
        for wiring in (SLOW, SELF, FREE):
            for value in variants(greatest_lags(wiring, least_beat(wiring))):
                self.assertIs(is_lags(wiring, value), naive_is_lags(wiring, value))
            for value in ODD:
                self.assertIs(is_lags(wiring, value), False)


class MovedTest(Case):
    def test_whatever_sequence(self):
        moves = 0
        for number, wiring in enumerate(small_wirings(50)):
            found = list(all_lags(wiring, -4))
            for seed, lags in enumerate(random.Random(number).sample(found, min(4, len(found)))):
                made = moved(wiring, lags)
                self.assertEqual(uses_of(made), naive_moved(wiring, lags, seed))
                self.assertEqual([made.inputs(), len(made.outputs())], [wiring.inputs(), len(wiring.outputs())])
                self.assertEqual([row[:2] for row in made.gates().values()], [row[:2] for row in wiring.gates().values()])
                # the least gate that can and still has to, one by one
                told, now = sequence(wiring, lags), wiring
                self.assertEqual({name: -told.count(name) for name in wiring.gates()}, lags)
                for at, gate in enumerate(told):
                    left = [name for name in wiring.gates() if told[at:].count(name)]
                    can = [name for name in left if all(bits for _, bits in now.sources(name))]
                    self.assertEqual(gate, can[0])
                    now = gone(now, gate)
                self.assertEqual(now, made)
                moves += len(told)
        self.assertGreater(moves, 200)

    def test_same_answers(self):
        chance = random.Random(7)
        machines = 0
        for wiring in small_wirings(50):
            lags = chance.choice(list(all_lags(wiring, -3)))
            made = moved(wiring, lags)
            for length in (0, 1, 9):
                word = [chance.choice(letters_of(len(wiring.inputs()))) for _ in range(length)]
                self.assertEqual(answer_of(made, word), naive_answer_of(wiring, word))
            self.assertEqual(beat_of(made), naive_beat(wiring, lags))
            if max(made.bits, wiring.bits) <= 5 and len(wiring.inputs()) < 3:
                self.assertIs(are_alike(machine_of(circuit_of(made)), machine_of(circuit_of(wiring))), True)
                machines += 1
        self.assertGreater(machines, 20)

    def test_the_document(self):
        fast = moved(wiring=SLOW, lags={"a": -1, "b": 0})
        self.assertEqual([fast.sources("a"), fast.sources("b"), beat_of(fast)], [[("x", (1,))], [("a", (1,))], 4])
        self.assertEqual(sequence(wiring=SLOW, lags={"b": -2, "a": -2}), ["a", "a", "b", "b"])
        self.assertEqual([sequence(SLOW, {"a": 0, "b": 0}), moved(SLOW, {"a": 0, "b": 0})], [[], SLOW])
        self.assertEqual(sequence(SELF, {"h": -2, "p": 0, "s": 0, "t": 0}), ["h", "h"])
        self.assertEqual(SLOW.bits, 2)

    def test_a_gate_that_uses_itself(self):
        # bits are taken first: what it makes comes behind the bits that are left
        made = Wiring(["x"], {"g": ("xor", 1, [("g", (1,)), ("x", (1, 0))])}, [("g", ())])
        self.assertEqual(moved(made, {"g": -1}), Wiring(["x"], {"g": ("xor", 1, [("g", (0,)), ("x", (0,))])}, [("g", (0,))]))
        # one wire twice, and a kind without sources
        twice = Wiring(["x"], {"g": ("and", 1, [("g", (1, 0)), ("g", (1,))]), "h": ("high", 1, [])}, [("h", (0,))])
        behind = moved(twice, {"g": -2, "h": -2})
        self.assertEqual([behind.sources("g"), behind.outputs()], [[("g", (1, 0)), ("g", (0,))], [("h", (0, 1, 1))]])

    def test_more_than_24_bits(self):
        # three uses of a: on the way there are more than 24 bits, at the end there are not
        rows = {"a": ("not", 1, [("x", (0,) * 12)]), "b": ("not", 1, [("a", ())]), "c": ("and", 1, [("a", ()), ("a", ())])}
        made = Wiring(["x"], rows, [("c", ()), ("b", ())])
        lags = {"a": -12, "b": -12, "c": -12}
        self.assertEqual(sequence(made, lags)[:12], ["a"] * 12)
        self.assertEqual([moved(made, lags).bits, beat_of(moved(made, lags))], [24, 2])
        self.refuses(TooMany, ["bits", 24], moved, made, {"a": -12, "b": 0, "c": 0})
        self.refuses(TooMany, ["bits", 24], moved, made, {"a": -7, "b": 0, "c": -1})
        self.assertEqual(moved(made, {"a": -6, "b": 0, "c": 0}).bits, 24)
        self.refuses(TooMany, ["bits", 24], moved, FREE, {"a": -25, "b": 0})
        self.assertEqual(moved(FREE, {"a": -24, "b": 0}).sources("b"), [("a", (1,) * 24), ("x", ())])
        self.assertIs(reaches(FREE, 4, {"a": -40, "b": 0}), True)


class ReachesTest(Case):
    def test_one_of_both(self):
        seen = {True: 0, False: 0}
        for wiring in small_wirings(60):
            found = list(all_lags(wiring, -4))
            beats = {}
            for lags in found:
                beats.setdefault(naive_beat(wiring, lags), []).append(lags)
            self.assertEqual(least_beat(wiring), min(beats))
            for beat in range(max(beats) + 2):
                right = [lags for told in beats if told <= beat for lags in beats[told]]
                told, against = greatest_lags(wiring, beat), ring(wiring, beat)
                seen[bool(right)] += 1
                if right:
                    self.assertEqual(told, {name: max(lags[name] for lags in right) for name in wiring.gates()})
                    self.assertIs(reaches(wiring, beat, told), True)
                    self.assertIsNone(against)
                else:
                    self.assertIsNone(told)
                    self.assertIs(naive_is_ring(wiring, beat, against), True)
                    self.assertIs(is_ring(wiring, beat, against), True)
                    self.assertIs(type(against), list)
                for lags in found[::7]:
                    self.assertIs(reaches(wiring, beat, lags), naive_beat(wiring, lags) <= beat)
        self.assertGreater(min(seen.values()), 200)

    def test_larger_ones(self):
        for wiring in [random_wiring(seed, 2, 10, 1) for seed in range(12)]:
            beat = least_beat(wiring)
            lags = greatest_lags(wiring, beat)
            self.assertEqual([reaches(wiring, beat, lags), ring(wiring, beat), list(lags)], [True, None, sorted(lags)])
            self.assertLessEqual(naive_beat(wiring, lags), beat)
            self.assertIsNone(greatest_lags(wiring, beat - 1))
            self.assertIs(naive_is_ring(wiring, beat - 1, ring(wiring, beat - 1)), True)
            # no lag can be one greater
            for name in lags:
                more = {**lags, name: lags[name] + 1}
                self.assertFalse(naive_is_lags(wiring, more) and naive_beat(wiring, more) <= beat)

    def test_the_document(self):
        self.assertEqual([least_beat(wiring=SLOW), greatest_lags(wiring=SLOW, beat=4), ring(wiring=SLOW, beat=4)], [4, {"a": -1, "b": 0}, None])
        self.assertEqual([greatest_lags(SLOW, 3), greatest_lags(SLOW, 0), greatest_lags(SLOW, 7)], [None, None, {"a": 0, "b": 0}])
        self.assertEqual([reaches(wiring=SLOW, beat=4, lags={"a": -1, "b": 0}), reaches(SLOW, 4, {"a": 0, "b": 0})], [True, False])
        self.assertIs(is_ring(wiring=SLOW, beat=3, value=[("way", ("b",))]), True)
        self.assertIs(is_ring(SLOW, 4, [("way", ("b",))]), False)
        self.assertEqual([least_beat(FREE), greatest_lags(FREE, 4)], [4, {"a": -1, "b": 0}])
        ones = Wiring(["x"], {"a": ("not", 1, [("x", (0,))]), "b": ("not", 1, [("a", ())])}, [("b", ())])
        self.assertEqual([least_beat(ones), beat_of(ones), greatest_lags(ones, 1)], [1, 2, {"a": -1, "b": 0}])

    def test_rings_of_gates_have_a_mean(self):
        # two gates of 3 and 5 on a ring with one register: no lags reach 7, and a ring of items shows it
        made = Wiring(["x"], {"a": ("not", 3, [("b", (0,))]), "b": ("not", 5, [("a", ())])}, [("b", ())])
        self.assertEqual([least_beat(made), beat_of(made)], [8, 8])
        two = Wiring(["x"], {"a": ("not", 3, [("b", (0, 0))]), "b": ("not", 5, [("a", ())])}, [("b", ())])
        self.assertEqual([least_beat(two), greatest_lags(two, 5)], [5, {"a": -1, "b": 0}])
        # from input to output no register can come between
        bare = Wiring(["x"], {"a": ("not", 3, [("x", ())]), "b": ("not", 5, [("a", ())])}, [("b", ())])
        self.assertEqual([least_beat(bare), is_ring(bare, 7, ring(bare, 7))], [8, True])

    def test_wrong_beats(self):
        for value in WRONG_BEATS:
            for call in (greatest_lags, ring):
                self.refuses_value(InvalidBeat, value, call, SLOW, value)
            for call in (reaches, is_item, is_ring, item_told):
                self.refuses_value(InvalidBeat, value, call, SLOW, value, None)
        self.refuses_value(InvalidLags, None, reaches, SLOW, beat=1, lags=None)


class ItemTest(Case):
    def test_all_items_of_small_ones(self):
        seen = {True: 0, False: 0}
        for wiring in small_wirings(40):
            wires = wiring.inputs() + list(wiring.gates()) + [""]
            items = [("source", use, at) for use in wires for at in range(4)] + [("forth", name) for name in wires]
            items += [("way", way) for length in (1, 2, 3) for way in itertools.product(wires, repeat=length)]
            for beat in (0, 9, 30):
                for item in items:
                    told = naive_item(wiring, beat, item)
                    self.assertIs(is_item(wiring, beat, item), told is not None)
                    seen[told is not None] += 1
                    if told is None:
                        self.refuses_value(InvalidItem, item, item_told, wiring, beat, item)
                    else:
                        self.assertEqual(item_told(wiring, beat, item), told)
        self.assertGreater(min(seen.values()), 1000)

    def test_three_sorts(self):
        self.assertEqual(item_told(wiring=SLOW, beat=0, item=("source", "a", 0)), ("", "a", 2))
        self.assertEqual(item_told(SLOW, 0, ("source", "b", 0)), ("a", "b", 0))
        self.assertEqual(item_told(SLOW, 9, ("source", "", 0)), ("b", "", 0))
        self.assertEqual(item_told(SLOW, 9, ("forth", "b")), ("b", "", 0))
        self.assertEqual(item_told(SLOW, 6, ("way", ("x", "a", "b", ""))), ("", "", 1))
        self.assertIs(is_item(wiring=SLOW, beat=6, value=("way", ("a", "b"))), True)
        self.assertIs(is_item(SLOW, 7, ("way", ("a", "b"))), False)
        self.assertIs(is_item(SLOW, 0, ("way", ("x",))), False)
        self.assertEqual(item_told(SELF, 0, ("source", "", 2)), ("", "", 0))

    def test_ways_that_come_to_a_gate_twice(self):
        way = ("s", "s", "s", "t", "p", "")
        self.assertEqual(item_told(SELF, 17, ("way", way)), ("s", "", 3))
        self.assertIs(is_item(SELF, 18, ("way", way)), False)

    def test_any_value(self):
        for item in (("source", "b", 0), ("way", ("a", "b")), ("forth", "a"), ("source", "", 0)):
            for value in list(variants(item)) + ODD:
                self.assertIs(is_item(SLOW, 6, value), naive_item(SLOW, 6, value) is not None)
        for value in (("source", "a", True), ("source", "a", 1), ("source", "x", 0), ("source", "a"), ("forth", ""), ("forth", "x"), ("forth", ["a"]),
                      ("source", ["a"], 0), ("way", ["a", "b"]), ("way", ()), ("way", ("", "a")), ("forth", "a", 0), ["forth", "a"], ("forth",)):
            self.refuses_value(InvalidItem, value, item_told, SLOW, 0, value)


class RingTest(Case):
    def test_any_value(self):
        seen = {True: 0, False: 0}
        two = Wiring(["x"], {"a": ("not", 3, [("b", (0,))]), "b": ("not", 5, [("a", ())])}, [("b", ())])
        rings = [(two, 7, ring(two, 7)), (SLOW, 3, [("way", ("b",))]), (SLOW, 5, ring(SLOW, 5) or [("way", ("a", "b"))]),
                 (two, 4, [("way", ("a", "b")), ("source", "a", 0), ("forth", "a"), ("source", "", 0)]),
                 (FREE, 3, [("way", ("x", "b", ""))]), (FREE, 3, [("way", ("b",)), ("way", ("b",))])]
        for wiring, beat, value in rings:
            for each in [value] + list(variants(value)):
                right = naive_is_ring(wiring, beat, each)
                self.assertIs(is_ring(wiring, beat, each), right)
                seen[right] += 1
        self.assertGreater(min(seen.values()), 10)

    def test_rings_of_one_item_and_none(self):
        self.assertIs(is_ring(SLOW, 3, [("way", ("b",))]), True)
        self.assertIs(is_ring(SLOW, 3, (("way", ("b",)),)), True)
        for value in ([], (), [("source", "b", 0)], [("forth", "a")], [("way", ("a",))], [("way", ("a", "b"))], ("way", ("b",)), None):
            self.assertIs(is_ring(SLOW, 3, value), False)
        # a sum of 0 is none
        loop = Wiring(["x"], {"a": ("not", 3, [("a", (0,))])}, [("a", ())])
        self.assertIs(is_ring(loop, 2, [("way", ("a", "a"))]), False)
        self.assertIs(is_ring(loop, 2, [("way", ("a", "a")), ("way", ("a",))]), True)

    def test_long_rings(self):
        value = [("way", ("b",))] * 2000
        self.assertIs(is_ring(SLOW, 3, value), True)
        self.assertIs(is_ring(SLOW, 3, value + [("way", ("a",))]), False)

    def test_repeated_and_unchanged(self):
        for wiring in small_wirings(10):
            text, beat = repr(wiring), least_beat(wiring)
            for call in (lambda: greatest_lags(wiring, beat), lambda: ring(wiring, beat - 1), lambda: least_beat(wiring)):
                self.assertEqual(call(), call())
            lags = greatest_lags(wiring, beat)
            held = dict(lags)
            moved(wiring, lags)
            sequence(wiring, lags)
            self.assertEqual([repr(wiring), lags], [text, held])
            self.assertIsNot(greatest_lags(wiring, beat), lags)
        self.assertEqual(len(some_variants([1], 3)), 3)
