"""Points [85] and [86], wirewords/asked.py."""

import copy
import itertools
import random

from tests.helping import ODD, Case, letters_of
from tests.machining import LATE, WIDE, naive_run, random_machine, some_machines, words_of
from tests.papers import is_listed, is_said, some_variants, variants
from tests.test_resets import FLIP, MORE, ONE, SIXTEEN
from wirewords.alike import are_alike, least
from wirewords.asked import agree, asked, asking, gap, guess, rows
from wirewords.errors import OtherWidths, TooMany
from wirewords.machines import Machine
from wirewords.refusals import InvalidTable, InvalidWords, NotClosed

FIRST = ([[]], [[(0,)], [(1,)]])


def naive_is_table(machine, value):
    if type(value) is not tuple or len(value) != 2 or not all(is_listed(part) for part in value):
        return False
    if not all(is_said(word, machine.width) for part in value for word in part):
        return False
    words, tails = [[list(word) for word in part] for part in value]
    if any(part.count(word) > 1 for part in (words, tails) for word in part):
        return False
    if [] not in words or [] in tails or any([letter] not in tails for letter in letters_of(machine.width)):
        return False
    return all(not word or word[:-1] in words for word in words) and all(len(tail) == 1 or tail[1:] in tails for tail in tails)


def naive_row(machine, word, tails):
    return [naive_run(machine, list(word) + list(tail))[0][len(word):] for tail in tails]


def naive_gap(machine, table):
    words, tails = table
    told = [naive_row(machine, word, tails) for word in words]
    for at, row in enumerate(told):
        if row in told[:at]:
            return list(words[at])
    for word in words:
        for letter in letters_of(machine.width):
            if naive_row(machine, list(word) + [letter], tails) not in told:
                return list(word) + [letter]
    return None


def naive_guess(machine, table):
    words, tails = table
    told = [naive_row(machine, word, tails) for word in words]
    met, made = [list(words[told.index(naive_row(machine, [], tails))])], []
    for word in met:
        made.append([])
        for letter in letters_of(machine.width):
            there = list(words[told.index(naive_row(machine, word + [letter], tails))])
            if there not in met:
                met.append(there)
            made[-1].append((met.index(there), naive_run(machine, word + [letter])[0][-1]))
    return Machine(machine.width, machine.out_width, made)


def random_table(machine, seed):
    """A table of questions: words with their beginnings, tails with their endings, in some sequence."""
    chance = random.Random(seed)
    letters = letters_of(machine.width)
    words, tails = [()], [(letter,) for letter in letters]
    for _ in range(chance.randrange(4)):
        words.append(chance.choice(words) + (chance.choice(letters),))
        tails.append((chance.choice(letters),) + chance.choice(tails))
    words, tails = list(dict.fromkeys(words)), list(dict.fromkeys(tails))
    chance.shuffle(words)
    chance.shuffle(tails)
    return [list(word) for word in words], [list(tail) for tail in tails]


def some_tables(many):
    for seed, machine in enumerate(some_machines(many, 6)):
        yield machine, random_table(machine, seed)
        for table, _, _ in asking(machine):
            yield machine, table


class TableTest(Case):
    def test_against_the_words_of_the_document(self):
        seen = {True: 0, False: 0}
        for machine, table in some_tables(60):
            words, tails = table
            self.assertEqual(rows(machine, table), [naive_row(machine, word, tails) for word in words])
            self.unlike_lists(rows(machine, table))
            questions = {tuple(word) + between + tuple(tail) for word in words for tail in tails
                         for between in [()] + [(letter,) for letter in letters_of(machine.width)]}
            self.assertEqual(asked(machine, table), sorted(map(list, questions), key=lambda word: (len(word), word)))
            self.unlike_lists(asked(machine, table))
            told = naive_gap(machine, table)
            self.assertEqual(gap(machine, table), told)
            seen[told is None] += 1
            if told is None:
                made = guess(machine, table)
                self.assertEqual([made, len(made)], [naive_guess(machine, table), len(words)])
                self.assertIs(agree(made, machine, asked(machine, table)), True)
            else:
                self.refuses(NotClosed, [told], guess, machine, table)
        self.assertGreater(min(seen.values()), 20)

    def test_the_document(self):
        self.assertEqual([gap(machine=LATE, table=FIRST), rows(machine=LATE, table=FIRST)], [[(1,)], [[[(0,)], [(0,)]]]])
        self.assertEqual(asked(machine=LATE, table=FIRST), [[(0,)], [(1,)], [(0,), (0,)], [(0,), (1,)], [(1,), (0,)], [(1,), (1,)]])
        self.assertEqual(guess(machine=LATE, table=([[(1,)], []], FIRST[1])), LATE)
        # a word whose row an earlier one has comes ahead of a word with a letter
        double = ([[], [(0,)], [(1,)]], FIRST[1])
        self.assertEqual([gap(LATE, double), gap(LATE, ([[], [(0,)]], FIRST[1])), gap(LATE, ([[(0,)], []], FIRST[1]))], [[(0,)], [(0,)], []])
        self.refuses(NotClosed, [[(0,)]], guess, LATE, double)
        # tuples may stand for the lists
        self.assertEqual(rows(LATE, (((), ((1,),)), (((0,),), ((1,),)))), [[[(0,)], [(0,)]], [[(1,)], [(1,)]]])
        self.assertEqual([rows(ONE, ([[]], [[()]])), gap(ONE, ([[]], [[()]])), guess(ONE, ([[]], [[()]]))], [[[[()]]], None, ONE])

    def test_no_fewer_states_agree(self):
        # of all machines with at most two states just the guess agrees on what is asked
        found = 0
        for machine in [FLIP, LATE] + [random_machine(seed, 1, 1, 2, 2) for seed in range(10)]:
            for table, made, _ in asking(machine):
                questions = asked(machine, table)
                for states in range(1, len(made) + 1):
                    for rest in itertools.product(itertools.product(range(states), letters_of(1)), repeat=2 * states):
                        other = Machine(1, 1, [list(rest[at:at + 2]) for at in range(0, len(rest), 2)])
                        if agree(other, machine, questions) and other == other.trimmed():
                            self.assertEqual(other, made)
                            found += 1
        self.assertGreater(found, 10)

    def test_any_table(self):
        seen = {True: 0, False: 0}
        for machine, table in [(FLIP, FIRST), (ONE, ([[]], [[()]]))] + list(some_tables(8)):
            for value in [table] + some_variants(table, 80) + ODD:
                right = naive_is_table(machine, value)
                seen[right] += 1
                if right:
                    self.assertEqual(gap(machine, value), naive_gap(machine, value))
                    continue
                for call in (rows, asked, gap, guess):
                    self.refuses_value(InvalidTable, value, call, machine, value)
        self.assertGreater(min(seen.values()), 30)
        tails = FIRST[1]
        for value in ([[[]], tails], ([[]], tails, []), ([], tails), ([[(0,)]], tails), ([[], [(0,), (1,)]], tails), ([[], []], tails), ([[]], [[(0,)]]),
                      ([[]], tails + [[]]), ([[]], tails + [[(0,), (0,), (1,)]]), ([[]], tails + [[(1,)]]), ([[], ()], tails), ([[(True,)], []], tails), None):
            self.refuses_value(InvalidTable, value, gap, FLIP, value)
        self.refuses(InvalidTable, [None], rows, MORE, None)
        for call in (rows, asked, gap, guess):
            self.refuses(TooMany, ["states", 16], call, MORE, FIRST)
            self.refuses(TooMany, ["states", 16], call, table=FIRST, machine=MORE)


class AgreeTest(Case):
    def test_answers(self):
        seen = {True: 0, False: 0}
        for seed in range(60):
            one, other = random_machine(seed, 1, 1, 3, 2), random_machine(seed + 500, 1, 1, 2, 2)
            for words in (list(words_of(1, 1)), list(words_of(1, 3)), [], [[(0,)]]):
                right = all(naive_run(one, word)[0] == naive_run(other, word)[0] for word in words)
                self.assertIs(agree(one, other, words), right)
                self.assertIs(agree(one, other, tuple(map(tuple, words))), right)
                seen[right] += 1
        self.assertGreater(min(seen.values()), 30)
        self.assertIs(agree(one=LATE, other=WIDE, words=[[(1,), (1,)], [(1,), (1,)]]), True)

    def test_wrong_ones(self):
        wide = Machine(1, 2, [[(0, (0, 0)), (0, (0, 0))]])
        for value in (None, 1, "", {}, {(0,): 1}, True, object()):
            self.refuses(InvalidWords, [None], agree, LATE, wide, value)
        for value in (None, 1, "0", [0], [(2,)], [(True,)], [()], (0,), [[0]], {}):
            self.refuses(InvalidWords, [1], agree, MORE, wide, [[(0,)], value, None])
        for one, other in ((LATE, wide), (wide, LATE), (LATE, ONE), (FLIP, Machine(0, 1, [[(0, (0,))]]))):
            with self.assertRaises(OtherWidths) as caught:
                agree(one, other, [])
            self.assertTrue(caught.exception.one is one and caught.exception.other is other)
        # too many states of either one come ahead of unlike widths
        self.refuses(TooMany, ["states", 16], agree, MORE, ONE, [])
        self.refuses(TooMany, ["states", 16], agree, ONE, words=[], other=MORE)
        self.refuses(InvalidWords, [0], agree, ONE, MORE, [[(0,)]])


class AskingTest(Case):
    def test_against_the_words_of_the_document(self):
        guesses = 0
        for machine in list(some_machines(60, 7)) + [random_machine(seed, 1, 1, 10, 2) for seed in range(6)]:
            words, tails = [[]], [[letter] for letter in letters_of(machine.width)]
            told = asking(machine)
            for at, (table, made, word) in enumerate(told):
                while True:
                    met = [naive_row(machine, each, tails) for each in words]
                    longer = [each + [letter] for each in words for letter in letters_of(machine.width)
                              if naive_row(machine, each + [letter], tails) not in met]
                    if not longer:
                        break
                    words.append(longer[0])
                self.assertEqual([table, type(table), made], [(words, tails), tuple, naive_guess(machine, table)])
                self.assertEqual(at == len(told) - 1, word is None)
                if word is None:
                    self.assertEqual([made, are_alike(made, machine)], [least(machine), True])
                    continue
                self.assertNotEqual(naive_run(made, word)[0], naive_run(machine, word)[0])
                if len(word) < 6:
                    less = [each for each in words_of(machine.width, len(word)) if (len(each), each) < (len(word), word)]
                    self.assertTrue(all(naive_run(made, each)[0] == naive_run(machine, each)[0] for each in less))
                tails += [word[begun:] for begun in range(len(word)) if word[begun:] not in tails]
                self.assertGreater(len(told[at + 1][1]), len(made))
            guesses = max(guesses, len(told))
            self.unlike_lists(told)
        self.assertGreater(guesses, 2)

    def test_the_document(self):
        told = asking(machine=LATE)
        self.assertEqual([told[0][0][0], told[0][1] == LATE, len(told), told[0][2]], [[[], [(1,)]], True, 1, None])
        self.assertEqual(asking(ONE), [(([[]], [[()]]), ONE, None)])

    def test_machines_that_want_many(self):
        # a lock opens behind one word alone: each guess but the last one takes some states for one
        chance = random.Random(2)
        key = [chance.randrange(2) for _ in range(15)]
        rows_of_lock = []
        for at in range(16):
            row = [(0, (0,)), (0, (0,))]
            if at < 15:
                row[key[at]] = (at + 1, (int(at == 14),))
            rows_of_lock.append(row)
        lock = Machine(1, 1, rows_of_lock)
        told = asking(lock)
        self.assertEqual([len(told) > 1, told[-1][1] == least(lock), len(told[-1][1])], [True, True, len(least(lock))])
        self.assertEqual(asking(SIXTEEN)[-1][1], least(SIXTEEN))
        self.refuses(TooMany, ["states", 16], asking, MORE)

    def test_repeated_and_unchanged(self):
        for machine, table in some_tables(10):
            held, text = copy.deepcopy(table), repr(machine)
            for call in (rows, asked, gap):
                self.assertEqual(call(machine, table), call(machine, table))
            self.assertEqual([table, repr(machine), asking(machine)], [held, text, asking(machine)])
        self.assertGreater(len(list(variants(FIRST))), 20)
