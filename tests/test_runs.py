"""Points [13] and [14]: what wires say, states, answers, and wires that are stuck."""

import itertools
import random
import unittest

from tests.helping import Case, plain_next, plain_says, random_parts
from wirewords.circuits import Circuit
from wirewords.errors import InvalidFault, InvalidLetter, InvalidState, InvalidWord, UnknownWire
from wirewords.runs import answer, states_along, step, told, values

FLIP = Circuit(["x"], [("n", "xor", ["x", "q"])], [("q", 0, "n")], ["n"])
WORD = [(1,), (1,), (0,)]


def naive_run(parts, word, state, stuck):
    """What all wires say at each letter, and the states."""
    heard, states = [], [state]
    for letter in word:
        heard.append(plain_says(parts, states[-1], letter, stuck))
        states.append(plain_next(parts, heard[-1]))
    return heard, states


class OrdinaryTest(Case):
    def test_the_counter_of_the_document(self):
        self.assertEqual(answer(FLIP, WORD), [(1,), (0,), (0,)])
        self.assertEqual(states_along(FLIP, [(1,), (1,)]), [(0,), (1,), (0,)])
        self.assertEqual(step(FLIP, (1,), (1,)), ((0,), (0,)))
        self.assertEqual(told(FLIP, "q", [(1,), (0,)]), [0, 1])
        self.assertEqual(values(FLIP, (0,), (1,)), {"n": 1, "q": 0, "x": 1})

    def test_kinds_of_what_is_told(self):
        self.assertIs(type(answer(FLIP, WORD)), list)
        self.assertIs(type(answer(FLIP, WORD)[0]), tuple)
        self.assertIs(type(states_along(FLIP, WORD)), list)
        self.assertIs(type(states_along(FLIP, WORD)[1]), tuple)
        self.assertIs(type(step(FLIP, (0,), (1,))), tuple)
        self.assertEqual([type(part) for part in step(FLIP, (0,), (1,))], [tuple, tuple])
        self.assertEqual(list(values(FLIP, (0,), (1,))), ["n", "q", "x"])

    def test_against_a_plain_run(self):
        for seed in range(40):
            parts = random_parts(seed, inputs=seed % 4, gates=seed % 7, registers=seed % 3, outputs=seed % 5)
            made = Circuit(*parts)
            chance = random.Random(seed)
            word = [tuple(chance.randrange(2) for _ in parts[0]) for _ in range(6)]
            state = tuple(chance.randrange(2) for _ in parts[2])
            stucks = [None] + [(wire, bit) for wire in made.wires() for bit in (0, 1)]
            for stuck, begun in itertools.product(stucks, (None, state)):
                heard, states = naive_run(parts, word, made.first() if begun is None else begun, stuck)
                outs = [tuple(said[wire] for wire in parts[3]) for said in heard]
                self.assertEqual(answer(made, word, begun, stuck), outs)
                self.assertEqual(states_along(made, word, begun, stuck), states)
                for wire in made.wires():
                    self.assertEqual(told(made, wire, word, begun, stuck), [said[wire] for said in heard])
                self.assertEqual(values(made, states[2], word[2], stuck), dict(sorted(heard[2].items())))
                self.assertEqual(step(made, states[2], word[2], stuck), (outs[2], states[3]))

    def test_states_are_sorted_by_the_names_of_registers(self):
        made = Circuit(["x"], [], [("z", 0, "x"), ("a", 1, "z")], ["a", "z"])
        self.assertEqual(states_along(made, [(1,), (0,)]), [(1, 0), (0, 1), (1, 0)])
        self.assertEqual(answer(made, [(1,), (0,)]), [(1, 0), (0, 1)])
        self.assertEqual(answer(made, [(0,)], (0, 1)), [(0, 1)])

    def test_letters_go_by_the_sequence_of_inputs(self):
        made = Circuit(["y", "x"], [("g", "pick", ["x", "y", "x"])], [], ["g", "x", "y"])
        self.assertEqual(answer(made, [(1, 0), (0, 1), (1, 1)]), [(0, 0, 1), (0, 1, 0), (1, 1, 1)])


class EdgesTest(Case):
    def test_the_empty_word(self):
        for word in ([], ()):
            self.assertEqual([answer(FLIP, word), told(FLIP, "n", word)], [[], []])
            self.assertEqual(states_along(FLIP, word), [(0,)])
            self.assertEqual(states_along(FLIP, word, (1,)), [(1,)])

    def test_no_inputs(self):
        made = Circuit([], [("n", "not", ["q"])], [("q", 0, "n")], ["q"])
        self.assertEqual(answer(made, [(), (), ()]), [(0,), (1,), (0,)])
        self.assertEqual(values(made, (1,), ()), {"n": 0, "q": 1})
        self.refuses(InvalidLetter, [(0,)], step, made, (0,), (0,))

    def test_nothing_at_all(self):
        made = Circuit([])
        self.assertEqual([answer(made, [(), ()]), states_along(made, [()]), values(made, (), ())], [[(), ()], [(), ()], {}])
        self.assertEqual(step(made, (), ()), ((), ()))

    def test_eight_inputs_and_a_register(self):
        names = ["i%d" % k for k in range(8)]
        made = Circuit(names, [], [("q", 1, "i7")], names[:7] + ["q"])
        letter = (1, 0, 1, 0, 1, 0, 1, 0)
        self.assertEqual(answer(made, [letter, letter]), [(1, 0, 1, 0, 1, 0, 1, 1), (1, 0, 1, 0, 1, 0, 1, 0)])

    def test_a_long_word(self):
        told_of = answer(FLIP, [(1,)] * 2500)
        self.assertEqual([len(told_of), sum(bits[0] for bits in told_of)], [2500, 1250])

    def test_words_may_be_tuples_and_arguments_have_names(self):
        self.assertEqual(answer(circuit=FLIP, word=tuple(WORD), state=(1,), stuck=("x", 0)), [(1,), (1,), (1,)])
        self.assertEqual(states_along(circuit=FLIP, word=WORD, state=None, stuck=None), states_along(FLIP, WORD))
        self.assertEqual(told(circuit=FLIP, wire="x", word=WORD, state=None, stuck=("x", 0)), [0, 0, 0])
        self.assertEqual(values(circuit=FLIP, state=(1,), letter=(0,), stuck=None), {"n": 1, "q": 1, "x": 0})
        self.assertEqual(step(circuit=FLIP, state=(1,), letter=(0,), stuck=("n", 0)), ((0,), (0,)))

    def test_what_is_passed_stays_and_what_is_told_is_new(self):
        word = [(1,), (0,)]
        for call in (answer, states_along):
            first = call(FLIP, word)
            first.append(7)
            self.assertEqual(call(FLIP, word), first[:-1])
        said = values(FLIP, (0,), (1,))
        said["n"] = 5
        self.assertEqual(values(FLIP, (0,), (1,)), {"n": 1, "q": 0, "x": 1})
        told(FLIP, "n", word).clear()
        self.assertEqual(told(FLIP, "n", word), [1, 1])
        self.assertEqual(word, [(1,), (0,)])


class StuckTest(Case):
    def test_a_stuck_input(self):
        made = Circuit(["x", "y"], [("g", "and", ["x", "y"])], [], ["g", "x"])
        self.assertEqual(answer(made, [(0, 1), (1, 0)], stuck=("x", 1)), [(1, 1), (0, 1)])
        self.assertEqual(values(made, (), (0, 1), ("x", 1)), {"g": 1, "x": 1, "y": 1})

    def test_a_stuck_gate(self):
        self.assertEqual(answer(FLIP, WORD, stuck=("n", 1)), [(1,), (1,), (1,)])
        self.assertEqual(states_along(FLIP, WORD, stuck=("n", 1)), [(0,), (1,), (1,), (1,)])
        self.assertEqual(answer(FLIP, WORD, stuck=("n", 0)), [(0,), (0,), (0,)])

    def test_a_stuck_register_takes_what_its_source_says(self):
        self.assertEqual(answer(FLIP, [(1,), (1,)], stuck=("q", 1)), [(0,), (0,)])
        self.assertEqual(states_along(FLIP, [(0,), (1,), (0,)], stuck=("q", 1)), [(0,), (1,), (0,), (1,)])
        self.assertEqual(told(FLIP, "q", [(0,), (1,)], stuck=("q", 1)), [1, 1])
        self.assertEqual(values(FLIP, (0,), (0,), ("q", 1)), {"n": 1, "q": 1, "x": 0})
        self.assertEqual(step(FLIP, (0,), (0,), ("q", 1)), ((1,), (1,)))
        own = Circuit([], [], [("q", 0, "q")], ["q"])
        self.assertEqual(states_along(own, [(), ()], stuck=("q", 1)), [(0,), (1,), (1,)])


WRONG_LETTERS = ((), (0, 1), (2,), (True,), (False,), ("0",), [0], None, 0, "0", ((0,),), object())
WRONG_WORDS = (None, 5, "0", {}, [0], (0,), [[0]], [(0,), ()], [(0,), (True,)], [(0, 1)], [(0,), None], {(0,): 1}, object())
WRONG_FAULTS = (
    "q", 5, (), ("q",), ("q", 1, 1), ["q", 1], ("u", 1), ("", 0), (None, 1), (["q"], 1), ("q", True), ("q", False),
    ("q", 2), ("q", None), (1, "q"), False, {}, object(),
)


class WrongTest(Case):
    def test_states(self):
        for value in WRONG_LETTERS:
            self.refuses_value(InvalidState, value, values, FLIP, value, (0,))
            self.refuses_value(InvalidState, value, step, FLIP, state=value, letter=(0,))
            if value is not None:
                self.refuses_value(InvalidState, value, answer, FLIP, WORD, value)
                self.refuses_value(InvalidState, value, states_along, FLIP, [], state=value)
                self.refuses_value(InvalidState, value, told, FLIP, "q", WORD, value)

    def test_letters(self):
        for value in WRONG_LETTERS:
            self.refuses_value(InvalidLetter, value, values, FLIP, (0,), value)
            self.refuses_value(InvalidLetter, value, step, FLIP, (0,), letter=value)

    def test_words(self):
        for value in WRONG_WORDS:
            self.refuses_value(InvalidWord, value, answer, FLIP, value)
            self.refuses_value(InvalidWord, value, states_along, FLIP, word=value)
            self.refuses_value(InvalidWord, value, told, FLIP, "q", value)

    def test_faults(self):
        for value in WRONG_FAULTS:
            self.refuses_value(InvalidFault, value, values, FLIP, (0,), (0,), value)
            self.refuses_value(InvalidFault, value, step, FLIP, (0,), (0,), value)
            self.refuses_value(InvalidFault, value, answer, FLIP, [], stuck=value)
            self.refuses_value(InvalidFault, value, states_along, FLIP, [], None, value)
            self.refuses_value(InvalidFault, value, told, FLIP, "q", [], None, value)

    def test_wires(self):
        for value in ("u", "", None, 0, ["q"], ("q",), True, object()):
            self.refuses_value(UnknownWire, value, told, FLIP, value, None)
            self.refuses_value(UnknownWire, value, told, circuit=FLIP, wire=value, word=[])

    def test_the_error_that_is_listed_first(self):
        self.refuses(InvalidState, [5], values, FLIP, 5, 6, 7)
        self.refuses(InvalidLetter, [6], values, FLIP, (0,), 6, 7)
        self.refuses(InvalidState, [5], step, FLIP, 5, 6, 7)
        self.refuses(InvalidLetter, [6], step, FLIP, (0,), 6, 7)
        for call in (answer, states_along):
            self.refuses(InvalidWord, [5], call, FLIP, 5, 6, 7)
            self.refuses(InvalidState, [6], call, FLIP, [], 6, 7)
        self.refuses(UnknownWire, [4], told, FLIP, 4, 5, 6, 7)
        self.refuses(InvalidWord, [5], told, FLIP, "q", 5, 6, 7)
        self.refuses(InvalidState, [6], told, FLIP, "q", [], 6, 7)


if __name__ == "__main__":
    unittest.main()
