"""Point [75], wirewords/fewest.py; of point [4] "A beat is reached", its second half."""

import itertools

from tests.helping import ODD, Case
from tests.papers import is_int, variants
from tests.test_lags import FREE, LONG, WRONG_BEATS, all_lags, counts_by, naive_beat, naive_item, small_wirings
from tests.test_wirings import SELF, SLOW
from tests.wiring import random_wiring
from wirewords.errors import TooMany
from wirewords.fewest import bits_by, fewest_bits, fewest_lags, flow, is_flow, loss
from wirewords.lags import greatest_lags, least_beat, moved, reaches
from wirewords.refusals import InvalidBeat, InvalidFlow, InvalidLags
from wirewords.wirings import Wiring

SPLIT = Wiring(["x"], {"a": ("not", 2, [("x", (0,))])}, [("a", ()), ("a", ())])
WIDE = Wiring(["x", "y"], {"a": ("and", 5, [("x", (0,)), ("y", (1,))]), "b": ("not", 6, [("a", ())])}, [("b", (0,))])


def naive_is_flow(wiring, beat, value):
    if type(value) is not dict or not all(is_int(count, 0) for count in value.values()):
        return False
    told = {item: naive_item(wiring, beat, item) for item in value}
    if None in told.values():
        return False
    sources = [(use, wire) for name, (_, _, rows) in wiring.gates().items() for use, (wire, _) in [(name, row) for row in rows]]
    sources += [("", wire) for wire, _ in wiring.outputs()]
    for gate in wiring.gates():
        want = sum(wire == gate for _, wire in sources) - sum(use == gate for use, _ in sources)
        if sum(value[item] * ((told[item][0] == gate) - (told[item][1] == gate)) for item in value) != want:
            return False
    return True


def naive_loss(wiring, beat, value):
    return sum(count * naive_item(wiring, beat, item)[2] for item, count in value.items())


class FewestTest(Case):
    def test_one_of_both(self):
        seen = {True: 0, False: 0}
        for wiring in small_wirings(60):
            # what leaves the fewest bits is within these lags, as no way has more bits
            bits = {}
            for lags in all_lags(wiring, -7):
                many = sum(counts_by(wiring, lags).values())
                self.assertEqual(bits_by(wiring, lags), many)
                beat = naive_beat(wiring, lags)
                bits[beat] = min(many, bits.get(beat, many))
            for beat in range(max(bits) + 2):
                right = min([many for reached, many in bits.items() if reached <= beat], default=None)
                seen[right is not None] += 1
                self.assertEqual(fewest_bits(wiring, beat), right)
                lags, told = fewest_lags(wiring, beat), flow(wiring, beat)
                if right is None:
                    self.assertEqual([lags, told], [None, None])
                    continue
                self.assertIs(reaches(wiring, beat, lags), True)
                self.assertEqual([bits_by(wiring, lags), naive_is_flow(wiring, beat, told), is_flow(wiring, beat, told)], [right, True, True])
                self.assertEqual([loss(wiring, beat, told), naive_loss(wiring, beat, told)], [wiring.bits - right] * 2)
                self.assertEqual([list(lags), list(told)], [sorted(lags), sorted(told)])
        self.assertGreater(min(seen.values()), 200)

    def test_larger_ones(self):
        for wiring in [random_wiring(seed, 2, 10, 1) for seed in range(10)]:
            for beat in (least_beat(wiring), least_beat(wiring) + 7, 200):
                lags, told = fewest_lags(wiring, beat), flow(wiring, beat)
                # a flow and lags that tell one number: neither can be better
                self.assertIs(reaches(wiring, beat, lags), True)
                self.assertIs(naive_is_flow(wiring, beat, told), True)
                self.assertEqual(bits_by(wiring, lags), wiring.bits - naive_loss(wiring, beat, told))
                self.assertEqual(fewest_bits(wiring, beat), bits_by(wiring, lags))
                self.assertLessEqual(fewest_bits(wiring, beat), bits_by(wiring, greatest_lags(wiring, beat)))
            self.assertIsNone(fewest_bits(wiring, least_beat(wiring) - 1))

    def test_no_flow_tells_more(self):
        for wiring in (SPLIT, WIDE, FREE, SLOW):
            beat = least_beat(wiring)
            fewest = fewest_bits(wiring, beat)
            gates = list(wiring.gates())
            items = [("forth", gate) for gate in gates] + [("way", (gate,)) for gate in gates]
            items += [("source", use, at) for use in gates + [""] for at in range(2)] + [("way", way) for way in itertools.permutations(gates, 2)]
            items = [item for item in items if naive_item(wiring, beat, item)]
            found = 0
            for counts in itertools.product(range(3), repeat=len(items)):
                value = dict(zip(items, counts))
                if naive_is_flow(wiring, beat, value):
                    found += 1
                    self.assertLessEqual(wiring.bits - naive_loss(wiring, beat, value), fewest)
            self.assertGreater(found, 0)

    def test_the_document(self):
        self.assertEqual([bits_by(wiring=SPLIT, lags={"a": -1}), bits_by(SPLIT, {"a": 0}), fewest_bits(wiring=SPLIT, beat=2)], [2, 1, 1])
        self.assertIs(is_flow(wiring=SPLIT, beat=2, value={("forth", "a"): 1}), True)
        self.assertEqual(loss(wiring=SPLIT, beat=2, counts={("forth", "a"): 1}), 0)
        self.assertEqual([fewest_bits(SPLIT, 1), fewest_lags(SPLIT, 1), flow(SPLIT, 1), fewest_bits(SPLIT, 0)], [None] * 4)
        self.assertEqual([fewest_lags(wiring=SPLIT, beat=2), fewest_bits(SLOW, 4), fewest_bits(SLOW, 7)], [{"a": 0}, 2, 2])
        # two bits become one behind the gate
        self.assertEqual([fewest_bits(WIDE, 11), fewest_lags(WIDE, 11), fewest_bits(WIDE, 6)], [2, {"a": -1, "b": 0}, 2])

    def test_beyond_24_bits(self):
        self.assertEqual([bits_by(LONG, {"a": -24}), bits_by(LONG, {"a": 0})], [24, 24])
        more = Wiring(["x"], {"a": ("not", 2, [("x", (0,) * 20)])}, [("a", ())] * 3)
        self.assertEqual(bits_by(more, {"a": -20}), 60)
        self.refuses(TooMany, ["bits", 24], moved, more, {"a": -20})
        self.assertEqual(bits_by(FREE, {"a": -40, "b": 0}), 40)
        # a beat may need more bits than a wiring may have
        gates = {"a": ("not", 9, [("x", (0,))])}
        gates.update({name: ("xor", 9, [("a", ()), ("a", (1,))]) for name in "bcdefghij"})
        many = Wiring(["x"], gates, [("b", ())] * 4)
        lags = fewest_lags(many, 9)
        self.assertEqual([fewest_bits(many, 9), bits_by(many, lags), reaches(many, 9, lags)], [27, 27, True])
        self.refuses(TooMany, ["bits", 24], moved, many, lags)

    def test_wrong_ones(self):
        for value in WRONG_BEATS:
            for call in (fewest_bits, fewest_lags, flow):
                self.refuses_value(InvalidBeat, value, call, SLOW, value)
            for call in (is_flow, loss):
                self.refuses_value(InvalidBeat, value, call, SLOW, value, None)
        for value in ODD + [{"a": 0, "b": 1}]:
            self.refuses_value(InvalidLags, value, bits_by, SLOW, value)
            if value != {}:
                self.refuses_value(InvalidFlow, value, loss, SPLIT, 2, value)


class FlowTest(Case):
    def test_any_value(self):
        seen = {True: 0, False: 0}
        for wiring in (SLOW, SPLIT, WIDE, SELF, FREE):
            beat = least_beat(wiring)
            for value in list(variants(flow(wiring, beat))) + ODD:
                right = naive_is_flow(wiring, beat, value)
                self.assertIs(is_flow(wiring, beat, value), right)
                seen[right] += 1
                if right:
                    self.assertEqual(loss(wiring, beat, value), naive_loss(wiring, beat, value))
                else:
                    self.refuses_value(InvalidFlow, value, loss, wiring, beat, value)
        self.assertGreater(min(seen.values()), 3)

    def test_counts_of_0_and_items_left_out(self):
        told = {("forth", "a"): 1, ("source", "a", 0): 0, ("source", "", 1): 0}
        self.assertEqual([is_flow(SPLIT, 2, told), loss(SPLIT, 2, told)], [True, 0])
        self.assertEqual([is_flow(SPLIT, 2, {("source", "", 0): 2, ("source", "a", 0): 1}), loss(SPLIT, 2, {("source", "", 0): 2, ("source", "a", 0): 1})],
                         [True, 1])
        for value in ({}, {("forth", "a"): 2}, {("forth", "a"): 0}, {("forth", "a"): True}, {("forth", "b"): 1}, {("forth", "a"): 1, ("way", ("a",)): 0},
                      {("forth", "a"): 1, None: 0}, {("forth", "a"): -1, ("source", "", 0): 2}, [("forth", "a")]):
            self.assertIs(is_flow(SPLIT, 2, value), False)
        self.assertIs(is_flow(SPLIT, 1, {("forth", "a"): 1, ("way", ("a",)): 5}), True)
        # as many uses as sources for each gate: the empty dict is a flow
        self.assertEqual([is_flow(SLOW, 4, {}), loss(SLOW, 4, {})], [True, 0])
        self.assertEqual(is_flow(SLOW, 4, {("source", "b", 0): 3, ("source", "a", 0): 3, ("source", "", 0): 3}), True)

    def test_repeated_and_unchanged(self):
        for wiring in small_wirings(8):
            beat = least_beat(wiring)
            for call in (fewest_bits, fewest_lags, flow):
                self.assertEqual(call(wiring, beat), call(wiring, beat))
            self.assertIsNot(flow(wiring, beat), flow(wiring, beat))
            told = flow(wiring, beat)
            held = dict(told)
            loss(wiring, beat, told)
            self.assertEqual(told, held)
