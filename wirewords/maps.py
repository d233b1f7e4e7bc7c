"""Circuits between patterns: whether they keep them, and the weakest pattern ahead."""

from wirewords.bits import all_bits, is_letter
from wirewords.errors import OtherWidth
from wirewords.patterns import is_place, least_pattern
from wirewords.states import check_limits
from wirewords.walks import Steps, is_closed, unlike_rows, walked


def check_wires(pattern, wires):
    """Raise OtherWidth unless a pattern is as wide as there are wires."""
    if pattern.width != len(wires):
        raise OtherWidth(pattern.width, len(wires))


def check_between(circuit, ahead, behind):
    """Raise the errors of a circuit between two patterns."""
    check_wires(ahead, circuit.inputs())
    check_wires(behind, circuit.outputs())
    check_limits(circuit)


def kept_moves(circuit, ahead, behind):
    """The moves of tuples (state, place ahead, place behind), out where what is said leads out behind."""
    steps = Steps(circuit)
    letters, ours, theirs = all_bits(ahead.width), ahead.goes(), behind.goes()

    def moves(here):
        state, place, twin = here
        told = []
        for letter, (following, out) in zip(letters, steps.row(state)):
            if letter in ours[place]:
                goal = theirs[twin].get(out)
                told.append((letter, None if goal is None else (following, ours[place][letter], goal)))
        return told

    return moves


def is_place_in_map(circuit, ahead, behind, value):
    """Whether any value is a tuple (state, place of one pattern, place of another one)."""
    if not isinstance(value, tuple) or len(value) != 3:
        return False
    return is_letter(value[0], len(circuit.first())) and is_place(ahead, value[1]) and is_place(behind, value[2])


def breaking_word(circuit, ahead, behind):
    """The least word that fits ahead, and whose answer does not fit behind; None."""
    check_between(circuit, ahead, behind)
    return walked((circuit.first(), 0, 0), kept_moves(circuit, ahead, behind))[1]


def keeps(circuit, ahead, behind):
    """Whether the answer of each word that fits ahead fits behind."""
    return breaking_word(circuit, ahead, behind) is None


def kept_table(circuit, ahead, behind):
    """The kept table of all tuples that are come to, sorted; None."""
    check_between(circuit, ahead, behind)
    came, word = walked((circuit.first(), 0, 0), kept_moves(circuit, ahead, behind))
    return sorted(came) if word is None else None


def is_kept_table(circuit, ahead, behind, value):
    """Whether any value is a kept table."""
    check_between(circuit, ahead, behind)
    rows = unlike_rows(value, lambda row: is_place_in_map(circuit, ahead, behind, row))
    return is_closed(rows, (circuit.first(), 0, 0), kept_moves(circuit, ahead, behind))


def is_breaking_word(circuit, ahead, behind, value):
    """Whether any value is a breaking word."""
    check_between(circuit, ahead, behind)
    return value in ahead and Steps(circuit).answer(value) not in behind


def weakest(circuit, behind):
    """The least pattern of just the words whose answers fit behind."""
    check_wires(behind, circuit.outputs())
    check_limits(circuit)
    steps = Steps(circuit)
    letters, theirs = all_bits(len(circuit.inputs())), behind.goes()

    def moves(here):
        state, twin = here
        return [
            (letter, (following, theirs[twin][out]))
            for letter, (following, out) in zip(letters, steps.row(state))
            if out in theirs[twin]
        ]

    came, _ = walked((circuit.first(), 0), moves)
    numbers = {here: at for at, here in enumerate(came)}
    goes = [{letter: numbers[there] for letter, there in moves(here)} for here in came]
    return least_pattern(len(circuit.inputs()), goes)


def weakest_moves(circuit, behind, pattern):
    """The moves of tuples (state, place behind, place), out where just one of both patterns leads on."""
    steps = Steps(circuit)
    letters, theirs, ours = all_bits(pattern.width), behind.goes(), pattern.goes()

    def moves(here):
        state, twin, place = here
        told = []
        for letter, (following, out) in zip(letters, steps.row(state)):
            goal, guess = theirs[twin].get(out), ours[place].get(letter)
            if goal is not None and guess is not None:
                told.append((letter, (following, goal, guess)))
            elif goal is not None or guess is not None:
                told.append((letter, None))
        return told

    return moves


def weakest_table(circuit, behind):
    """The weakest table, for the weakest pattern, of all tuples that are come to, sorted."""
    pattern = weakest(circuit, behind)
    came, _ = walked((circuit.first(), 0, 0), weakest_moves(circuit, behind, pattern))
    return sorted(came)


def is_weakest_table(circuit, behind, pattern, value):
    """Whether any value is a weakest table for a pattern."""
    check_wires(behind, circuit.outputs())
    check_wires(pattern, circuit.inputs())
    check_limits(circuit)
    rows = unlike_rows(value, lambda row: is_place_in_map(circuit, behind, pattern, row))
    return is_closed(rows, (circuit.first(), 0, 0), weakest_moves(circuit, behind, pattern))
