"""Points [71], [72], and of [73] gates that go; wirewords/wirings.py."""

import itertools
import random

from tests.helping import ODD, Case, letters_of
from tests.wiring import bare_ways, links, naive_answer_of, random_wiring, some_wirings
from wirewords.circuits import Circuit
from wirewords.errors import InvalidInputs, InvalidOutputs, InvalidWord, TooMany, UnknownWire
from wirewords.refusals import BareRing, CannotGo, InvalidDelays, InvalidWay, UnknownGate
from wirewords.runs import answer
from wirewords.wirings import (
    Wiring, answer_of, beat_of, can_go, circuit_of, delay_of, gone, is_way, registers_on, slowest_way,
)

SLOW = Wiring(["x"], {"a": ("not", 3, [("x", (0, 1))]), "b": ("not", 4, [("a", ())])}, [("b", ())])
# a gate that uses itself, one wire twice as a source, a kind without sources
SELF = Wiring(["x", "y"], {"s": ("xor", 2, [("s", (1, 0)), ("x", ())]), "t": ("and", 5, [("s", ()), ("s", (1,))]),
                           "h": ("high", 1, []), "p": ("pick", 7, [("h", (0,)), ("t", ()), ("y", (1, 1))])},
              [("p", ()), ("t", (0,)), ("x", ())])


def some_words(wiring, many=12):
    chance = random.Random(wiring.bits)
    for length in (0, 1, many):
        yield [chance.choice(letters_of(len(wiring.inputs()))) for _ in range(length)]


class WiringTest(Case):
    def test_parts(self):
        made = Wiring(outputs=(("b", ()),), inputs=("x",),
                      gates={"b": ("not", 4, (("a", ()),)), "a": ("not", 3, [("x", (0, 1))])})
        self.assertEqual(made, SLOW)
        self.assertEqual([made.inputs(), made.outputs(), made.bits, len(made)], [["x"], [("b", ())], 2, 2])
        self.assertEqual(made.gates(), {"a": ("not", 3, [("x", (0, 1))]), "b": ("not", 4, [("a", ())])})
        self.assertEqual(list(made.gates()), ["a", "b"])
        self.assertEqual([made.sources(gate="a"), made.sources("b"), SELF.sources("h")], [[("x", (0, 1))], [("a", ())], []])
        self.assertEqual(repr(made), "Wiring(['x'], {'a': ('not', 3, [('x', (0, 1))]), 'b': ('not', 4, [('a', ())])}, [('b', ())])")
        self.assertEqual(eval(repr(SELF), {"Wiring": Wiring}), SELF)
        self.assertEqual(repr(Wiring(["x"], {"g": ("not", 1, [("x", (0,))])}, [("g", ())])),
                         "Wiring(['x'], {'g': ('not', 1, [('x', (0,))])}, [('g', ())])")

    def test_uses(self):
        self.assertEqual([SELF.uses(wire="s"), SELF.uses("x"), SELF.uses("t"), SELF.uses("p")],
                         [[("s", 0), ("t", 0), ("t", 1)], [("", 2), ("s", 1)], [("", 1), ("p", 1)], [("", 0)]])
        self.assertEqual(Wiring(["x"], {"h": ("high", 1, [])}, [("x", ())]).uses("h"), [])
        twice = Wiring(["x"], {"h": ("high", 1, [])}, [("h", ()), ("h", (0,))])
        self.assertEqual(twice.uses("h"), [("", 0), ("", 1)])

    def test_in_and_equal(self):
        for value in ODD + ["x", "a ", ("a",), ["a"]]:
            self.assertIs(value in SLOW, False)
        self.assertEqual(["a" in SLOW, "b" in SLOW], [True, True])
        gates = SLOW.gates()
        others = [Wiring(["x"], gates, [("b", (0,))]), Wiring(["x"], gates, [("b", ()), ("b", ())]), Wiring(["x", "y"], gates, [("b", ())]),
                  Wiring(["x"], {**gates, "b": ("not", 5, [("a", ())])}, [("b", ())]),
                  Wiring(["x"], {**gates, "a": ("not", 3, [("x", (0, 0))])}, [("b", ())]), None, 5, gates, repr(SLOW)]
        for other in others:
            self.assertFalse(SLOW == other)
            self.assertTrue(SLOW != other)

    def test_what_is_passed_stays_and_what_is_told_is_new(self):
        inputs, gates, outputs = ["x"], {"g": ("not", 1, [("x", (0,))])}, [("g", ())]
        made = Wiring(inputs, gates, outputs)
        kept = repr(made)
        gates["g"][2].clear()
        gates["h"] = 5
        inputs.append("y")
        outputs.clear()
        for call in (made.inputs, made.outputs, made.gates, lambda: made.sources("g"), lambda: made.uses("x")):
            self.unlike_lists(call())
            call().clear()
        made.gates()["g"][2].clear()
        self.assertEqual(repr(made), kept)

    def test_limits_just_so(self):
        gates = {"g%d" % k: ("low", 1, []) for k in range(10)}
        made = Wiring(list("abcd"), gates, [("a", (0,) * 6)] * 4)
        self.assertEqual([made.bits, len(made), len(made.inputs())], [24, 10, 4])
        self.refuses(TooMany, ["bits", 24], Wiring, list("abcd"), gates, [("a", (0,) * 6)] * 3 + [("a", (0,) * 7)])
        self.refuses(TooMany, ["outputs", 4], Wiring, list("abcd"), gates, [("a", (0,) * 6)] * 5)
        more = {**gates, "h": ("not", 1, [("a", (0,))])}
        self.refuses(TooMany, ["gates", 10], Wiring, list("abcd"), more, [("a", (0,) * 6)] * 5)
        self.refuses(TooMany, ["inputs", 4], Wiring, list("abcde"), more, [("a", (0,) * 6)] * 5)
        self.refuses(BareRing, ["i"], Wiring, list("abcde"), {**more, "i": ("not", 1, [("i", ())])}, [("a", ())])
        # bits of gates and of outputs together
        one = {"g": ("not", 1, [("g", (1,) * 20)])}
        self.assertEqual(Wiring(["x"], one, [("g", (0,) * 4)]).bits, 24)
        self.refuses(TooMany, ["bits", 24], Wiring, ["x"], one, [("g", (0,) * 5)])
        for delay in (1, 20):
            self.assertEqual(Wiring(["x"], {"g": ("low", delay, [])}, [("x", ())]).gates()["g"][1], delay)

    def test_rings(self):
        def ring(*bits):
            names = list("abc")[:len(bits)]
            return {name: ("not", 1, [(names[at - 1], (0,) * many)]) for at, (name, many) in enumerate(zip(names, bits))}

        for bits in ((1,), (0, 1), (1, 0), (1, 1), (0, 0, 1), (2, 0, 0)):
            self.assertEqual(len(Wiring(["x"], ring(*bits), [("x", ())])), len(bits))
        for bits in ((0,), (0, 0), (0, 0, 0)):
            self.refuses(BareRing, ["a"], Wiring, ["x"], ring(*bits), [("x", ())])
        # the least gate on a ring, not one that leads there or is led to
        gates = {"a": ("not", 1, [("c", ())]), "b": ("not", 1, [("x", ())]), "d": ("and", 1, [("b", ()), ("c", ())]),
                 "c": ("or", 1, [("d", ()), ("d", (0,))]), "e": ("not", 1, [("e", ())])}
        self.refuses(BareRing, ["c"], Wiring, ["x"], gates, [("x", ())])


class AnswerTest(Case):
    def test_against_plain_runs(self):
        for wiring in some_wirings(150):
            for word in some_words(wiring):
                self.assertEqual(answer_of(wiring, word), naive_answer_of(wiring, word))
                self.assertEqual(answer_of(wiring, tuple(word)), answer_of(wiring, word))

    def test_the_document(self):
        self.assertEqual(answer_of(wiring=SLOW, word=[(1,), (1,), (0,)]), [(0,), (1,), (1,)])
        self.assertEqual(answer_of(SLOW, []), [])
        for word in some_words(SELF):
            self.assertEqual(answer_of(SELF, word), naive_answer_of(SELF, word))
        # the register next to the use comes first
        held = Wiring(["x"], {"l": ("low", 1, [])}, [("x", (1, 0, 0))])
        self.assertEqual(answer_of(held, [(1,)] * 4), [(1,), (0,), (0,), (1,)])

    def test_wrong_words(self):
        for value in (None, 5, "1", [0], [()], [(0, 0)], [(2,)], [(True,)], [[0]], [(0,), None], {(0,): 1}, object()):
            self.refuses_value(InvalidWord, value, answer_of, SLOW, value)


class CircuitTest(Case):
    def test_answers_as_the_wiring_does(self):
        for wiring in some_wirings(120, 8):
            made = circuit_of(wiring)
            self.assertEqual([made.inputs(), len(made.registers()), len(made.outputs())],
                             [wiring.inputs(), wiring.bits, len(wiring.outputs())])
            for word in some_words(wiring):
                self.assertEqual(answer(made, word), answer_of(wiring, word))

    def test_names_by_sorted_uses(self):
        self.assertEqual(circuit_of(wiring=SLOW), Circuit(["x"], [("a", "not", ["r0"]), ("b", "not", ["a"])],
                                                          [("r0", 0, "r1"), ("r1", 1, "x")], ["b"]))
        made = circuit_of(SELF)
        self.assertEqual(made.registers(), [("r0", 0, "t"), ("r1", 0, "h"), ("r2", 1, "r3"), ("r3", 1, "y"), ("r4", 1, "r5"),
                                            ("r5", 0, "s"), ("r6", 1, "s")])
        self.assertEqual(made.gates(), [("h", "high", []), ("p", "pick", ["r1", "t", "r2"]), ("s", "xor", ["r4", "x"]),
                                        ("t", "and", ["s", "r6"])])
        self.assertEqual([made.outputs(), made.inputs()], [["p", "r0", "x"], ["x", "y"]])

    def test_names_of_wires_are_left_out(self):
        made = circuit_of(Wiring(["r0", "r3"], {"r1": ("not", 1, [("r0", (1, 0))]), "r10": ("low", 1, [])}, [("r1", (0, 1))]))
        self.assertEqual(made.registers(), [("r2", 0, "r4"), ("r4", 1, "r1"), ("r5", 1, "r6"), ("r6", 0, "r0")])
        self.assertEqual([made.outputs(), made.sources("r1")], [["r2"], ["r5"]])

    def test_eight_bits_and_one_more(self):
        gates = {"g": ("not", 1, [("g", (1,) * 4)])}
        self.assertEqual(len(circuit_of(Wiring(["x"], gates, [("g", (0,) * 4)])).registers()), 8)
        self.refuses(TooMany, ["registers", 8], circuit_of, Wiring(["x"], gates, [("g", (0,) * 5)]))


class GoTest(Case):
    def test_against_the_words_of_the_document(self):
        seen = {True: 0, False: 0}
        for wiring in some_wirings(150, 20):
            for name, (kind, _, sources) in wiring.gates().items():
                right = all(bits for _, bits in sources)
                self.assertIs(can_go(wiring, name), right)
                seen[right] += 1
                if not right:
                    self.refuses(CannotGo, [name], gone, wiring, name)
                    continue
                behind = gone(wiring, name)
                for word in some_words(wiring):
                    self.assertEqual(answer_of(behind, word), answer_of(wiring, word))
                uses = len(wiring.uses(name))
                self.assertEqual(behind.bits, wiring.bits - len(sources) + uses)
                for other, (sort, delay, ends) in wiring.gates().items():
                    self.assertEqual(behind.gates()[other][:2], (sort, delay))
                    for (wire, bits), (twin, moved) in zip(ends, behind.sources(other)):
                        change = (wire == name) - (other == name)
                        self.assertEqual([wire, len(bits) + change], [twin, len(moved)])
        self.assertGreater(min(seen.values()), 50)

    def test_ordinary(self):
        behind = gone(wiring=SLOW, gate="a")
        self.assertEqual(behind, Wiring(["x"], {"a": ("not", 3, [("x", (1,))]), "b": ("not", 4, [("a", (1,))])}, [("b", ())]))
        again = gone(behind, "a")
        self.assertEqual(again.gates(), {"a": ("not", 3, [("x", ())]), "b": ("not", 4, [("a", (1, 0))])})
        self.assertEqual(gone(again, "b"), Wiring(["x"], {"a": ("not", 3, [("x", ())]), "b": ("not", 4, [("a", (0,))])}, [("b", (0,))]))
        self.assertEqual([can_go(wiring=SLOW, gate="a"), can_go(SLOW, "b")], [True, False])
        self.assertEqual(SLOW.bits, 2)

    def test_a_gate_that_uses_itself(self):
        made = Wiring(["x"], {"g": ("xor", 1, [("g", (1,)), ("x", (1, 0))])}, [("g", ())])
        behind = gone(made, "g")
        self.assertEqual(behind, Wiring(["x"], {"g": ("xor", 1, [("g", (0,)), ("x", (0,))])}, [("g", (0,))]))
        twice = Wiring(["x"], {"g": ("and", 1, [("g", (1, 0)), ("g", (1,))])}, [("x", ())])
        self.assertEqual(gone(twice, "g").sources("g"), [("g", (0, 1)), ("g", (1,))])

    def test_gates_without_sources(self):
        for kind, bit in (("low", 0), ("high", 1)):
            made = Wiring(["x"], {"g": (kind, 1, []), "n": ("not", 1, [("g", (0, 1))])}, [("g", ())])
            self.assertEqual([can_go(made, "g"), gone(made, "g").outputs(), gone(made, "g").sources("n")],
                             [True, [("g", (bit,))], [("g", (0, 1, bit))]])
            alone = Wiring(["x"], {"g": (kind, 1, [])}, [("x", ())])
            self.assertEqual(gone(alone, "g"), alone)

    def test_limits_and_wrong_ones(self):
        made = Wiring(["x"], {"g": ("not", 1, [("x", (0,))])}, [("g", (0,) * 11), ("g", (0,) * 12)])
        self.assertEqual(made.bits, 24)
        self.refuses(TooMany, ["bits", 24], gone, made, "g")
        self.assertEqual(gone(Wiring(["x"], made.gates(), [("g", (0,) * 11)] * 2), "g").bits, 24)
        for value in ODD + ["x", "z", ("a",), ["a"]]:
            for call in (can_go, gone):
                self.refuses_value(UnknownGate, value, call, SLOW, value)
            self.refuses_value(UnknownGate, value, SLOW.sources, value)
            if value != "x":
                self.refuses_value(UnknownWire, value, SLOW.uses, value)
        self.assertEqual(SLOW.uses("x"), [("a", 0)])


class WayTest(Case):
    def test_beats_and_slowest_ways(self):
        for wiring in some_wirings(150):
            ways = bare_ways(wiring)
            beat = max(delay for _, delay in ways)
            self.assertEqual(beat_of(wiring), beat)
            self.assertEqual(slowest_way(wiring), min(way for way, delay in ways if delay == beat))
            for way, delay in ways:
                self.assertIs(is_way(wiring, way), True)
                self.assertEqual([registers_on(wiring, way), delay_of(wiring, way)], [0, delay])

    def test_the_document(self):
        self.assertEqual([beat_of(wiring=SLOW), slowest_way(wiring=SLOW)], [7, ("a", "b")])
        self.assertEqual([beat_of(SELF), slowest_way(SELF)], [14, ("s", "t", "p")])

    def test_the_least_tuple(self):
        # an input adds no delay, but may stand ahead of a gate, and be the lesser tuple
        made = Wiring(["b", "z"], {"c": ("and", 2, [("b", ()), ("z", ())]), "d": ("not", 2, [("z", ())])}, [("c", ())])
        self.assertEqual([beat_of(made), slowest_way(made)], [2, ("b", "c")])
        made = Wiring(["z"], {"c": ("not", 2, [("z", ())]), "e": ("not", 1, [("c", ())]), "d": ("not", 1, [("c", ())])}, [("z", ())])
        self.assertEqual(slowest_way(made), ("c", "d"))
        # one wire with and without a bit at one gate
        made = Wiring(["z"], {"c": ("and", 2, [("z", (0,)), ("z", ())])}, [("c", ())])
        self.assertEqual([registers_on(made, ("z", "c")), slowest_way(made)], [0, ("c",)])

    def test_is_way(self):
        for wiring in some_wirings(40):
            wires = wiring.inputs() + list(wiring.gates())
            for length in (1, 2, 3):
                for way in itertools.product(wires + [""], repeat=length):
                    right = "" not in way[:-1] and way[0] != "" and all(part not in wiring.inputs() for part in way[1:])
                    right = right and all(links(wiring, one, other) for one, other in zip(way, way[1:]))
                    self.assertIs(is_way(wiring, way), bool(right))
                    if right:
                        least = sum(min(links(wiring, one, other)) for one, other in zip(way, way[1:]))
                        delay = sum(wiring.gates()[part][1] for part in way if part in wiring)
                        self.assertEqual([registers_on(wiring, way), delay_of(wiring, way)], [least, delay])

    def test_ways_that_come_to_a_gate_twice(self):
        way = ("x", "s", "s", "s", "t", "p", "")
        self.assertEqual([is_way(wiring=SELF, value=way), registers_on(wiring=SELF, way=way), delay_of(wiring=SELF, way=way)],
                         [True, 4, 18])
        self.assertEqual([registers_on(SELF, ("t", "")), registers_on(SELF, ("x", "")), delay_of(SELF, ("x", ""))], [1, 0, 0])
        self.assertEqual(registers_on(SELF, ("s",) * 500), 998)

    def test_any_value(self):
        for value in ODD + [("",), ("", "a"), ("a", "x"), ("x", "b"), ("a", ""), ("b", "", ""), ("x", "a", "b", "", ""), ["a", "b"],
                            "ab", ("a", None), ("a", ["b"]), (("a",), "b"), ("a", 0), ("z",), ("b", "a"), (None,)]:
            if value != ("x",):
                self.assertIs(is_way(SLOW, value), False)
                for call in (registers_on, delay_of):
                    self.refuses_value(InvalidWay, value, call, SLOW, value)
        for value in (("x",), ("a",), ("x", "a"), ("x", "a", "b", ""), ("b", "")):
            self.assertIs(is_way(SLOW, value), True)


class WrongTest(Case):
    def test_inputs(self):
        for value in ODD + ["xy", {"x": 1}]:
            if not isinstance(value, (list, tuple)) or not value:
                self.refuses(InvalidInputs, [None], Wiring, value, None, None)
        for value in (None, 5, "", "X", "x" * 13, "1x", "x", ("x",), ["x"], True):
            self.refuses(InvalidInputs, [1], Wiring, ["x", value, None], None, None)
            self.refuses(InvalidInputs, [1], Wiring, outputs=None, gates=None, inputs=("x", value))

    def test_gates(self):
        low = ("low", 1, [])
        for value in (None, 5, True, "", [], (), {}, [("g", low)], {"x": low}, {"g": low, "X": low}, {"": low}, {5: low}, {None: low}, {("g",): low},
                      {"g": None, "x" * 13: low}, object()):
            self.refuses(InvalidDelays, [None], Wiring, ["x"], value, None)
        wrong = [None, 5, "low", [], (), list(low), ("low", 1), ("low", 1, [], 0), ("lo", 1, []), (None, 1, []), (["low"], 1, []),
                 ("low", 0, []), ("low", 21, []), ("low", -1, []), ("low", True, []), ("low", None, []), ("low", "1", []),
                 ("low", 1, None), ("low", 1, {}), ("low", 1, ""), ("low", 1, [("x", ())]), ("not", 1, []), ("not", 1, [("x", ())] * 2),
                 ("and", 1, [("x", ())]), ("pick", 1, [("x", ())] * 2)]
        sources = [None, 5, "x", ("x",), ["x", ()], ("x", (), ()), ("z", ()), (None, ()), (["x"], ()), ("x", []), ("x", None), ("x", 0), ("x", (2,)),
                   ("x", (True,)), ("x", (None,)), ("x", (0, -1)), ("x", ((0,),)), ("x", "0"), ("", ())]
        wrong += [("not", 1, [source]) for source in sources] + [("and", 1, [("x", ()), source]) for source in sources]
        for value in wrong:
            self.refuses(InvalidDelays, ["b"], Wiring, ["x"], {"c": None, "b": value, "a": low}, None)
        self.refuses(InvalidDelays, ["a"], Wiring, ["x"], {"b": None, "a": ("not", 1, [("c", ())])}, None)
        # a gate may use one that stands behind it, and itself
        self.assertEqual(len(Wiring(["x"], {"a": ("not", 1, [("b", ())]), "b": ("not", 1, [("b", (0,))])}, [("x", ())])), 2)

    def test_outputs(self):
        gates = {"g": ("low", 1, [])}
        for value in (None, 5, True, "", "g", [], (), {}, {("g", ()): 1}, object()):
            self.refuses(InvalidOutputs, [None], Wiring, ["x"], gates, value)
        for value in (None, 5, "x", ("x",), ["x", ()], ("x", (), ()), ("z", ()), (None, ()), (["x"], ()), ("x", []), ("x", None), ("x", 0), ("x", (2,)),
                      ("x", (True,)), ("x", (None,)), ("", ())):
            self.refuses(InvalidOutputs, [1], Wiring, ["x"], gates, [("g", (0,)), value, None])
            self.refuses(InvalidOutputs, [0], Wiring, ["x"], {"g": ("not", 1, [("g", ())])}, (value,))

    def test_random_ones_are_wirings(self):
        self.assertEqual(len(random_wiring(3, 2, 4, 1)), 4)
