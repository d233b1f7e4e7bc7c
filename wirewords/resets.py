"""Words that bring states of machines together, and words that tell where a machine is."""

from wirewords.alike import parting_by
from wirewords.bits import is_count, is_word
from wirewords.checks import check_number
from wirewords.errors import TooMany
from wirewords.lots import (
    MOST_LOTS,
    check_few_states,
    check_lot,
    check_machine_word,
    ends_of,
    every_state,
    goals_of,
    run_from,
    split_by,
)
from wirewords.machines import check_machine_state
from wirewords.refusals import InvalidAnswer
from wirewords.walks import is_closed, rounds_of, unlike_rows, walked, word_to

MOST_LESS_WORDS = 5000


def led(machine, lot, word):
    """The lot of the states behind a word from those of a lot."""
    check_lot(machine, lot)
    check_machine_word(machine, word)
    check_few_states(machine)
    return ends_of(machine.rows(), lot, word)


def pair_of(one, other):
    """Two states, the lesser one first; None if they are one."""
    return None if one == other else (min(one, other), max(one, other))


def meeting_moves(machine):
    """The moves of pairs of states, out where both come to one."""
    letters, rows = machine.letters(), machine.rows()

    def moves(pair):
        one, other = pair
        return [
            (letter, pair_of(goal, twin))
            for letter, (goal, _), (twin, _) in zip(letters, rows[one], rows[other])
        ]

    return moves


def meeting_word(machine, state, other):
    """The least word that leads two states to one; None."""
    if state == other:
        return []
    return walked(pair_of(state, other), meeting_moves(machine))[1]


def meeting(machine, state, other):
    """The least word that leads two states to one; None."""
    check_machine_state(machine, state)
    check_machine_state(machine, other)
    check_few_states(machine)
    return meeting_word(machine, state, other)


def apart(machine):
    """The sorted list of the pairs of states that no word leads to one; None if there is none."""
    check_few_states(machine)
    moves = meeting_moves(machine)
    left = {(one, other): True for other in range(len(machine)) for one in range(other)}
    while True:
        kept = {pair: True for pair in left if all([there in left for _, there in moves(pair)])}
        if len(kept) == len(left):
            return sorted(left) if left else None
        left = kept


def is_apart(machine, value):
    """Whether any value is a list of pairs of states that stay unlike."""
    check_few_states(machine)
    many = len(machine)

    def is_pair(row):
        if not isinstance(row, tuple) or len(row) != 2:
            return False
        return is_count(row[0]) and is_count(row[1]) and row[0] < row[1] < many

    pairs = unlike_rows(value, is_pair)
    if not pairs:
        return False
    return is_closed(pairs, list(pairs)[0], meeting_moves(machine))


def reset(machine):
    """The least word that leads all states to one; None."""
    check_few_states(machine)
    letters, rows = machine.letters(), machine.rows()

    def moves(lot):
        return [(letter, goals_of(rows, lot, at)) for at, letter in enumerate(letters)]

    came, _ = walked(every_state(machine), moves, MOST_LOTS)
    check_number("lots", came, MOST_LOTS)
    found = [lot for lot in came if len(lot) == 1]
    return word_to(came, found[0]) if found else None


def any_reset(machine):
    """A word that leads all states to one; None."""
    check_few_states(machine)
    rows = machine.rows()
    lot = list(range(len(machine)))
    word = []
    while len(lot) > 1:
        further = meeting_word(machine, lot[0], lot[1])
        if further is None:
            return None
        word = word + further
        lot = ends_of(rows, lot, further)
    return word


def is_reset(machine, value):
    """Whether any value is a word that leads all states to one."""
    check_few_states(machine)
    return is_word(value, machine.width) and len(ends_of(machine.rows(), every_state(machine), value)) == 1


def parted_lots(rows, lots, at):
    """The lots into which the outputs that are told at a letter part some lots, unlike ones."""
    found = {}
    for lot in lots:
        parts = split_by(rows, lot, at)
        for out in parts:
            found[parts[out]] = True
    return list(found)


def are_told(classes, lots):
    """Whether all states in each of some lots are alike."""
    return all([len(set([classes[state] for state in lot])) == 1 for lot in lots])


def homing(machine):
    """The least homing word."""
    check_few_states(machine)
    letters, rows = machine.letters(), machine.rows()
    classes = rounds_of(rows)[-1]
    words = [[]]
    families = [[every_state(machine)]]
    for number in range(MOST_LESS_WORDS + 1):
        if number > 0:
            # Words in their sequence: behind each one stand, in turn, those with a letter more.
            ahead, at = (number - 1) // len(letters), (number - 1) % len(letters)
            words.append(words[ahead] + [letters[at]])
            families.append(parted_lots(rows, families[ahead], at))
        if are_told(classes, families[number]):
            return words[number]
    raise TooMany("words", MOST_LESS_WORDS)


def unlike_pair(classes, lots):
    """Two states of one lot that are not alike; None."""
    for lot in lots:
        for state in lot:
            if classes[state] != classes[lot[0]]:
                return lot[0], state
    return None


def any_homing(machine):
    """A homing word."""
    check_few_states(machine)
    letters, rows = machine.letters(), machine.rows()
    told = rounds_of(rows)
    lots = [every_state(machine)]
    word = []
    pair = unlike_pair(told[-1], lots)
    while pair is not None:
        for letter in parting_by(machine, told, pair[0], pair[1]):
            lots = parted_lots(rows, lots, letters.index(letter))
            word.append(letter)
        pair = unlike_pair(told[-1], lots)
    return word


def is_homing(machine, value):
    """Whether any value is a homing word."""
    check_few_states(machine)
    if not is_word(value, machine.width):
        return False
    rows = machine.rows()
    classes = rounds_of(rows)[-1]
    met = {}
    for state in every_state(machine):
        told, end = run_from(rows, state, value)
        if met.setdefault(tuple(told), classes[end]) != classes[end]:
            return False
    return True


def runs_with(machine, word, answer):
    """The tuples (state, state behind a word) of the states with an answer to it."""
    check_machine_word(machine, word)
    if not is_word(answer, machine.out_width) or len(answer) != len(word):
        raise InvalidAnswer(answer)
    check_few_states(machine)
    runs = [(state, run_from(machine.rows(), state, word)) for state in every_state(machine)]
    return [(state, end) for state, (told, end) in runs if told == list(answer)]


def where(machine, word, answer):
    """The sorted list of the states behind a word, from those with an answer to it."""
    return sorted(set([end for _, end in runs_with(machine, word, answer)]))


def began(machine, word, answer):
    """The sorted list of the states with an answer to a word."""
    return [state for state, _ in runs_with(machine, word, answer)]
