"""Machines that are asked by words: tables of questions, and the guesses that follow of them."""

from wirewords.alike import check_widths, parting
from wirewords.bits import is_list, is_word
from wirewords.lots import check_few_states, run_from
from wirewords.machines import Machine
from wirewords.refusals import InvalidTable, InvalidWords, NotClosed


def words_met(machine, value):
    """The dict from the words, as tuples, of any value that is a list of unlike words; None."""
    if not is_list(value):
        return None
    met = {}
    for word in value:
        if not is_word(word, machine.width) or tuple(word) in met:
            return None
        met[tuple(word)] = True
    return met


def is_table(machine, value):
    """Whether any value is a table of questions of a machine."""
    if not isinstance(value, tuple) or len(value) != 2:
        return False
    words, tails = words_met(machine, value[0]), words_met(machine, value[1])
    if words is None or tails is None or () not in words or () in tails:
        return False
    if not all([(letter,) in tails for letter in machine.letters()]):
        return False
    if not all([word[:-1] in words for word in words]):
        return False
    return all([len(tail) == 1 or tail[1:] in tails for tail in tails])


def check_table(machine, table):
    """Raise InvalidTable unless this is a table of questions, and TooMany of the machine's states."""
    if not is_table(machine, table):
        raise InvalidTable(table)
    check_few_states(machine)


def state_rows(machine, tails):
    """For each state the row of the words behind which it is, as a tuple of tuples."""
    steps = machine.rows()
    told = [[run_from(steps, state, tail)[0] for tail in tails] for state in range(len(steps))]
    return [tuple([tuple(answer) for answer in answers]) for answers in told]


def new_word(machine, words, told):
    """The first of some words with a letter whose row, by those of the states, none of them has; None."""
    met = [told[machine.behind(word)] for word in words]
    for word in words:
        for letter in machine.letters():
            longer = list(word) + [letter]
            if told[machine.behind(longer)] not in met:
                return longer
    return None


def first_gap(machine, words, told):
    """The first word whose row an earlier one has, otherwise the first new one; None."""
    met = [told[machine.behind(word)] for word in words]
    for at, word in enumerate(words):
        if met[at] in met[:at]:
            return list(word)
    return new_word(machine, words, told)


def guess_by(machine, words, told):
    """The machine of the words of a closed table, by the rows of the states."""
    owners = {told[machine.behind(word)]: list(word) for word in words}
    met = [told[0]]
    numbers = {told[0]: 0}
    steps = []
    while len(steps) < len(met):
        word = owners[met[len(steps)]]
        row = []
        for letter in machine.letters():
            goal, out = machine.step(machine.behind(word), letter)
            if told[goal] not in numbers:
                numbers[told[goal]] = len(met)
                met.append(told[goal])
            row.append((numbers[told[goal]], out))
        steps.append(row)
    return Machine(machine.width, machine.out_width, steps)


def rows(machine, table):
    """The rows of the words of a table, lists of answers."""
    check_table(machine, table)
    told = state_rows(machine, table[1])
    return [[list(answer) for answer in told[machine.behind(word)]] for word in table[0]]


def asked(machine, table):
    """The sorted list of the words that a table asks."""
    check_table(machine, table)
    words, tails = table
    between = [()] + [(letter,) for letter in machine.letters()]
    found = {}
    for word in words:
        for letters in between:
            for tail in tails:
                found[tuple(word) + letters + tuple(tail)] = True
    return [list(word) for word in sorted(found, key=lambda word: (len(word), word))]


def gap(machine, table):
    """The word by which a table is not closed; None."""
    check_table(machine, table)
    return first_gap(machine, table[0], state_rows(machine, table[1]))


def guess(machine, table):
    """The guess of a closed table."""
    check_table(machine, table)
    told = state_rows(machine, table[1])
    word = first_gap(machine, table[0], told)
    if word is not None:
        raise NotClosed(word)
    return guess_by(machine, table[0], told)


def agree(one, other, words):
    """Whether two machines have the same answers to some words."""
    if not is_list(words):
        raise InvalidWords(None)
    for at, word in enumerate(words):
        if not is_word(word, one.width):
            raise InvalidWords(at)
    check_few_states(one)
    check_few_states(other)
    check_widths(one, other)
    return all([one.answer(word) == other.answer(word) for word in words])


def asking(machine):
    """The guesses of the asking of a machine: tuples of a table, the guess, and the word that parts both."""
    check_few_states(machine)
    words, tails = [[]], [[letter] for letter in machine.letters()]
    guesses = []
    while True:
        told = state_rows(machine, tails)
        further = new_word(machine, words, told)
        while further is not None:
            words = words + [further]
            further = new_word(machine, words, told)
        made = guess_by(machine, words, told)
        word = parting(made, machine)
        guesses.append((([list(each) for each in words], [list(each) for each in tails]), made, word))
        if word is None:
            return guesses
        ends = [word[at:] for at in range(len(word))]
        tails = tails + [end for end in ends if end not in tails]
