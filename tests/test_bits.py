"""Points [2] and [11]: integers, bits, names, letters, words, kinds."""

import itertools
import unittest

from tests.helping import ODD, WANTS, Case, plain_bit
from wirewords.bits import KINDS, is_bit, is_count, is_integer, is_letter, is_name, is_word, letters, says
from wirewords.errors import InvalidBits, InvalidKind, InvalidWidth


class KindsOfValuesTest(Case):
    def test_integers(self):
        for value in (0, 1, -1, 10 ** 29, -(10 ** 29)):
            self.assertIs(is_integer(value), True)
        for value in (True, False, None, "1", (1,), [1], {}, b"1", object()):
            self.assertIs(is_integer(value), False)

    def test_counts(self):
        for value in (0, 1, 10 ** 29):
            self.assertIs(is_count(value), True)
        for value in (-1, True, False, None, "0", (0,), [], object()):
            self.assertIs(is_count(value), False)

    def test_bits(self):
        for value in (0, 1):
            self.assertIs(is_bit(value), True)
        for value in (2, -1, True, False, None, "0", (0,), [], object()):
            self.assertIs(is_bit(value), False)

    def test_names(self):
        for value in ("a", "z", "a0", "q9z", "abcdefghijkl", "a00000000000"):
            self.assertIs(is_name(value), True)
        for value in ("", "abcdefghijklm", "0a", "A", "aB", "a_", "a ", " a", "a\n", "a-b", None, 1, ["a"], b"a", ("a",)):
            self.assertIs(is_name(value), False)

    def test_letters_are_tuples_of_bits(self):
        self.assertIs(is_letter((), 0), True)
        self.assertIs(is_letter((0, 1), 2), True)
        for value in ([0, 1], (0,), (0, 1, 1), (0, True), (False, 1), (0, 2), "01", None, 5, {0: 1, 1: 0}):
            self.assertIs(is_letter(value, 2), False)
        for value in ([], None, (0,), ""):
            self.assertIs(is_letter(value, 0), False)

    def test_words_are_lists_or_tuples_of_letters(self):
        for value in ([], (), [(0,)], [(0,), (1,)], ((0,), (1,))):
            self.assertIs(is_word(value, 1), True)
        self.assertIs(is_word([(), ()], 0), True)
        for value in ([[0]], [(0, 1)], [(True,)], [0], (0,), "", None, {}, {(0,): 1}, [(0,), ()], [(0,), None]):
            self.assertIs(is_word(value, 1), False)

    def test_names_of_parameters(self):
        self.assertTrue(is_integer(value=1) and is_count(value=1) and is_bit(value=1) and is_name(value="a"))
        self.assertTrue(is_letter(value=(1,), width=1) and is_word(value=[(1,)], width=1))


class LettersTest(Case):
    def test_all_letters_sorted(self):
        for width in range(9):
            told = letters(width)
            self.assertEqual(told, sorted(itertools.product((0, 1), repeat=width)))
            self.assertIs(type(told), list)
        self.assertEqual(letters(0), [()])
        self.assertEqual(len(letters(width=8)), 256)

    def test_a_new_list_each_time(self):
        letters(1).append(5)
        self.assertEqual(letters(1), [(0,), (1,)])

    def test_wrong_widths(self):
        for value in (-1, 9, True, False, None, "1", [1], (1,), {}, object()):
            self.refuses_value(InvalidWidth, value, letters, value)
            self.refuses_value(InvalidWidth, value, letters, width=value)


class SaysTest(Case):
    def test_kinds(self):
        self.assertEqual(list(KINDS.items()), sorted(WANTS.items()))

    def test_every_kind_at_all_bits(self):
        for kind, number in WANTS.items():
            for bits in itertools.product((0, 1), repeat=number):
                self.assertEqual(says(kind, list(bits)), plain_bit(kind, bits))
                self.assertEqual(says(kind=kind, bits=bits), plain_bit(kind, bits))
                self.assertIs(type(says(kind, bits)), int)
        self.assertEqual([says("pick", [1, 0, 1]), says("pick", [0, 0, 1])], [0, 1])

    def test_wrong_kinds(self):
        for value in ODD + ["AND", "nand", "and ", ["and"], ("and",)]:
            self.refuses_value(InvalidKind, value, says, value, [0, 0])
        self.refuses_value(InvalidKind, "nor", says, "nor", None)

    def test_wrong_bits(self):
        for value in ([], [0], [0, 1, 0], [0, True], [False, 1], [0, 2], "01", None, {0: 0, 1: 1}, 5, [[0], 1]):
            self.refuses_value(InvalidBits, value, says, "and", value)
        self.refuses_value(InvalidBits, None, says, "low", None)
        given = [0]
        self.refuses_value(InvalidBits, given, says, "high", bits=given)


if __name__ == "__main__":
    unittest.main()
