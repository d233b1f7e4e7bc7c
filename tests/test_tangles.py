"""Points [31], [35] and [36], the class Tangle, and its look."""

import unittest

from tests.helping import Case, letters_of, plain_bit, random_parts
from tests.tangling import GATED, HOLD, LOOP, PAIR, TURNING, held_at, naive_turns, random_tangle, some_tangles
from wirewords.circuits import Circuit
from wirewords.errors import (
    HasRegisters,
    InvalidGates,
    InvalidInputs,
    InvalidLetter,
    InvalidRun,
    InvalidStanding,
    TooMany,
    UnknownWire,
)
from wirewords.runs import values
from wirewords.settling import is_plain, rests
from wirewords.tangles import Tangle, look

WRONG_STANDINGS = ((), (0,), (0, 0, 0), (0, True), (False, 0), (0, 2), [0, 0], None, "00", 0, ((0,), 0), object())


def numbered(sign, many):
    return ["%s%d" % (sign, k) for k in range(many)]


class MakingTest(Case):
    def test_parts(self):
        made = Tangle(["s", "r"], [("n", "or", ("s", "n")), ("b", "not", ["n"])])
        self.assertEqual([made.inputs(), made.names()], [["s", "r"], ["b", "n"]])
        self.assertEqual(made.gates(), [("b", "not", ["n"]), ("n", "or", ["s", "n"])])
        self.assertEqual(made.standings(), [(0, 0), (0, 1), (1, 0), (1, 1)])
        self.assertEqual(Tangle(inputs=("s", "r"), gates=(("n", "or", ("s", "n")), ("b", "not", ("n",)))), made)

    def test_copies(self):
        inputs, gates = ["s"], [("n", "not", ["s"])]
        made = Tangle(inputs, gates)
        inputs.append("t")
        gates[0][2].append("t")
        gates.append(5)
        for _ in range(2):
            told = made.gates()
            self.assertEqual([made.inputs(), told, made.names(), made.standings()],
                             [["s"], [("n", "not", ["s"])], ["n"], [(0,), (1,)]])
            told[0][2].clear()
            for rows in (told, made.inputs(), made.names(), made.standings()):
                rows.append(1)

    def test_equal_and_repr(self):
        self.assertEqual(repr(Tangle(("s",), [("n", "not", ("s",))])), "Tangle(['s'], [('n', 'not', ['s'])])")
        self.assertEqual(eval(repr(HOLD)), HOLD)
        gates = HOLD.gates()
        self.assertTrue(Tangle(["r", "s"], gates[::-1]) == HOLD)
        for other in (Tangle(["s", "r"], gates), Tangle(["r", "s"], gates + [("z", "low", [])]),
                      Tangle(["r", "s"], [("m", "or", ["p", "r"])] + gates[1:])):
            self.assertFalse(other == HOLD)
            self.assertTrue(other != HOLD)
        for value in (None, 1, repr(HOLD), Circuit(["r", "s"]), object()):
            self.assertFalse(HOLD == value)

    def test_limits(self):
        gates = [(name, "not", [name]) for name in numbered("g", 6)]
        self.assertEqual(len(Tangle(numbered("i", 4), gates).standings()), 64)
        self.refuses(TooMany, ["inputs", 4], Tangle, numbered("i", 5), gates + [("h", "low", [])])
        self.refuses(TooMany, ["gates", 6], Tangle, numbered("i", 4), gates + [("h", "low", [])])

    def test_wrong_parts(self):
        gate = ("g", "not", ["g"])
        for value in (None, "x", {"x": 1}, 5):
            self.refuses(InvalidInputs, [None], Tangle, value, None)
        for wrong in ("X", "", None, 0, ["x"], "x"):
            self.refuses(InvalidInputs, [1], Tangle, ["x", wrong, wrong], None)
        for value in (None, "x", {}, 5, [], ()):
            self.refuses(InvalidGates, [None], Tangle, ["x"], value)
            self.refuses(InvalidGates, [None], Tangle, inputs=["x"], gates=value)
        for wrong in (None, "g", ["h", "not", ["x"]], ("h", "not"), ("H", "low", []), ("h", "nand", ["x", "x"]),
                      ("h", "not", "x"), ("h", "not", ["x", "x"]), ("h", "not", [1]), ("x", "low", []), ("g", "low", [])):
            self.refuses(InvalidGates, [1], Tangle, ["x"], [gate, wrong, wrong])
        self.refuses(UnknownWire, ["u"], Tangle, ["x"], [gate, ("z", "and", ["x", "u"]), ("a", "not", ["v"])])
        self.refuses(UnknownWire, ["u"], Tangle, numbered("i", 5), [("z", "not", ["u"])])

    def test_of_a_circuit(self):
        made = Circuit(["y", "x"], [("b", "not", ["a"]), ("a", "and", ["x", "y"])], [], ["b"])
        self.assertEqual(Tangle.of(made), Tangle(["y", "x"], made.gates()))
        self.assertEqual(Tangle.of(circuit=made), Tangle.of(made))
        full = [(name, "low", []) for name in numbered("g", 7)]
        rows = [("q", 0, "q"), ("p", 0, "q")]
        self.refuses(HasRegisters, ["p"], Tangle.of, Circuit(numbered("i", 5), [], rows))
        self.refuses(InvalidGates, [None], Tangle.of, Circuit(numbered("i", 5)))
        self.refuses(TooMany, ["inputs", 4], Tangle.of, Circuit(numbered("i", 5), full))
        self.refuses(TooMany, ["gates", 6], Tangle.of, Circuit(numbered("i", 4), full))


class MovingTest(Case):
    def test_dues_wanting_turned(self):
        for made in some_tangles(30, 4):
            for letter, standing in held_at(made):
                web = naive_turns(made, letter)
                told = made.wanting(letter, standing)
                self.assertEqual(told, sorted(web[standing]))
                dues = tuple(1 - bit if name in told else bit for name, bit in zip(made.names(), standing))
                self.assertEqual(made.dues(letter, standing), dues)
                for at, name in enumerate(made.names()):
                    other = standing[:at] + (1 - standing[at],) + standing[at + 1:]
                    self.assertEqual(made.turned(standing, name), other)
                    if name in told:
                        self.assertEqual(web[standing][name], other)
                        self.assertEqual(made.places(letter, standing, [name]), [standing, other])

    def test_the_document(self):
        self.assertEqual(HOLD.names(), ["m", "n", "p", "q"])
        self.assertEqual(HOLD.wanting(letter=(0, 0), standing=(1, 1, 0, 0)), ["m", "n"])
        self.assertEqual(HOLD.dues(letter=(0, 0), standing=(1, 1, 0, 0)), (0, 0, 0, 0))
        self.assertEqual(HOLD.turned(standing=(1, 1, 0, 0), gate="q"), (1, 1, 0, 1))
        self.assertEqual(HOLD.places(letter=(0, 0), standing=(1, 1, 0, 0), run=["m", "q"]),
                         [(1, 1, 0, 0), (0, 1, 0, 0), (0, 1, 0, 1)])
        self.assertEqual(HOLD.places((0, 0), (1, 1, 0, 0), ()), [(1, 1, 0, 0)])
        self.assertEqual(TURNING.places((), (0,), ("n", "n", "n")), [(0,), (1,), (0,), (1,)])

    def test_errors(self):
        for value in ((), (0,), [0, 0], (0, True), (0, 2), None, "00", object()):
            for call in (HOLD.dues, HOLD.wanting):
                self.refuses_value(InvalidLetter, value, call, value, None)
            self.refuses_value(InvalidLetter, value, HOLD.places, value, None, None)
        for value in WRONG_STANDINGS:
            for call in (HOLD.dues, HOLD.wanting):
                self.refuses_value(InvalidStanding, value, call, (0, 0), value)
            self.refuses_value(InvalidStanding, value, HOLD.places, (0, 0), value, None)
            self.refuses_value(InvalidStanding, value, HOLD.turned, value, None)
        for value in ("r", "z", "", None, 0, True, ["m"], ("m",), object()):
            self.refuses_value(UnknownWire, value, HOLD.turned, (0, 0, 0, 0), value)
        for value in (None, "mq", {"m": 1}, 5):
            self.refuses(InvalidRun, [None], HOLD.places, (0, 0), (1, 1, 0, 0), value)
        for wrong in ("m", "p", "r", "z", None, 0, ["q"], ("q",)):
            self.refuses(InvalidRun, [1], HOLD.places, (0, 0), (1, 1, 0, 0), ["m", wrong, wrong])


def naive_look(tangle, letter):
    """By trying all bits of all gates that are not told yet."""
    names = sorted(tangle.names())
    told = [(None,) * len(names)]
    while True:
        now = []
        for name, kind, sources in sorted(tangle.gates()):
            bits = set()
            for standing in letters_of(len(names)):
                if all(known in (None, bit) for known, bit in zip(told[-1], standing)):
                    said = dict(zip(tangle.inputs() + names, letter + standing))
                    bits.add(plain_bit(kind, [said[source] for source in sources]))
            now.append(bits.pop() if len(bits) == 1 else None)
        if tuple(now) == told[-1]:
            return told
        told.append(tuple(now))


class LookTest(Case):
    def test_the_document(self):
        self.assertEqual(look(HOLD, (1, 0))[-2:], [(1, 0, None, 0), (1, 0, 1, 0)])
        self.assertEqual(look(tangle=LOOP, letter=()), [(None, None)])
        self.assertEqual(look(GATED, (1, 1)), [(None,), (1,)])
        self.assertEqual(look(GATED, (1, 0)), [(None,)])

    def test_one_gate_twice_among_sources(self):
        made = Tangle(["x"], [("a", "xor", ["n", "n"]), ("n", "not", ["n"]), ("p", "pick", ["n", "a", "a"])])
        self.assertEqual(look(made, (0,)), [(None, None, None), (0, None, None), (0, None, 0)])
        self.assertEqual(look(PAIR, ()), [(None, None)])

    def test_against_all_bits(self):
        for made in some_tangles(60, 5):
            for letter in letters_of(len(made.inputs())):
                told = look(made, letter)
                self.assertEqual(told, naive_look(made, letter))
                for standing in made.standings():
                    if not made.wanting(letter, standing):
                        self.assertTrue(all(bit in (None, own) for bit, own in zip(told[-1], standing)))

    def test_circuits_are_plain_and_told_all(self):
        for seed in range(25):
            made = Circuit(*random_parts(seed, inputs=seed % 3, gates=1 + seed % 5, registers=0))
            tangle = Tangle.of(made)
            self.assertIs(is_plain(tangle), True)
            for letter, standing in rests(tangle).items():
                said = values(made, (), letter)
                self.assertEqual(standing, tuple(said[name] for name in tangle.names()))
                self.assertEqual(look(tangle, letter)[-1], standing)

    def test_wrong_letters(self):
        for value in ((), (0,), [0, 0], (0, True), (0, 2), None, "00", object()):
            self.refuses_value(InvalidLetter, value, look, HOLD, value)

    def test_six_gates(self):
        made = random_tangle(3, 4, 6)
        self.assertEqual(look(made, (0, 1, 0, 1)), naive_look(made, (0, 1, 0, 1)))


if __name__ == "__main__":
    unittest.main()
