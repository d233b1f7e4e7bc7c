"""Lots of the states of machines that are told from outside, and what words do with them."""

from wirewords.bits import is_count, is_list, is_word, number_of
from wirewords.checks import check_number
from wirewords.errors import InvalidWord
from wirewords.refusals import InvalidLot

MOST_TOLD_STATES = 16
MOST_LOTS = 2000


def check_few_states(machine):
    """Raise TooMany if a machine has more states than are told from outside."""
    check_number("states", machine.rows(), MOST_TOLD_STATES)


def is_lot(machine, value):
    """Whether any value is a sorted list of one or more unlike states."""
    if not is_list(value) or len(value) == 0:
        return False
    if not all([is_count(state) and state < len(machine) for state in value]):
        return False
    return all([one < other for one, other in zip(value, value[1:])])


def check_lot(machine, lot):
    """Raise InvalidLot unless this is a lot."""
    if not is_lot(machine, lot):
        raise InvalidLot(lot)


def check_machine_word(machine, word):
    """Raise InvalidWord unless this is a word for the machine."""
    if not is_word(word, machine.width):
        raise InvalidWord(word)


def run_from(rows, state, word):
    """What is told at the letters of a word from a state, and the state behind it."""
    now = state
    told = []
    for letter in word:
        now, out = rows[now][number_of(letter)]
        told.append(out)
    return told, now


def ends_of(rows, lot, word):
    """The sorted list of the states behind a word from those of a lot."""
    return sorted(set([run_from(rows, state, word)[1] for state in lot]))


def goals_of(rows, lot, at):
    """The tuple of the states behind a letter, told by its number, from those of a lot, sorted."""
    return tuple(sorted(set([rows[state][at][0] for state in lot])))


def split_by(rows, lot, at):
    """The dict from the outputs that are told at a letter, sorted, to the lots of the states behind it."""
    found = {}
    for state in lot:
        goal, out = rows[state][at]
        found.setdefault(out, {})[goal] = True
    return {out: tuple(sorted(found[out])) for out in sorted(found)}


def forgets_at(rows, lot, at):
    """Whether two states of a lot tell the same at a letter and have one next state."""
    return len(set([rows[state][at] for state in lot])) < len(lot)


def every_state(machine):
    """The lot of all states."""
    return tuple(range(len(machine)))
