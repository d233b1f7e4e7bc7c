"""Wires that are stuck: the words at which it shows, and the papers that hide it."""

from wirewords.bits import all_bits, is_letter
from wirewords.checks import check_number, check_stuck, check_word, is_fault
from wirewords.errors import InvalidFault
from wirewords.machines import Machine
from wirewords.runs import answer
from wirewords.states import MOST_WIRES
from wirewords.walks import Steps, is_closed, least_rows, unlike_rows, walked


def faults(circuit):
    """All faults of a circuit, sorted."""
    return [(wire, bit) for wire in circuit.wires() for bit in (0, 1)]


def check_fault(circuit, fault):
    """Raise InvalidFault unless this is a fault of the circuit."""
    if not is_fault(circuit, fault):
        raise InvalidFault(fault)


def check_few_inputs(circuit):
    """Raise TooMany if a circuit has more inputs than are tried in all ways."""
    check_number("inputs", circuit.inputs(), MOST_WIRES)


def known_states(steps):
    """The states that are come to, as they are met: TooMany if there are too many."""
    states = steps.states(Machine.MOST_STATES)
    check_number("states", states, Machine.MOST_STATES)
    return states


def shows_at(circuit, word, fault, other=None):
    """Whether a word parts a fault and a suspect."""
    check_word(circuit, word)
    check_fault(circuit, fault)
    check_stuck(circuit, other)
    return answer(circuit, word, stuck=fault) != answer(circuit, word, stuck=other)


def twin_moves(circuit, fault, other):
    """The moves of tuples of the states with either suspect, out where the outputs say unlike bits."""
    letters, ours, theirs = all_bits(len(circuit.inputs())), Steps(circuit, fault), Steps(circuit, other)

    def moves(pair):
        told = []
        for letter, (goal, out), (twin, said) in zip(letters, ours.row(pair[0]), theirs.row(pair[1])):
            told.append((letter, (goal, twin) if out == said else None))
        return told

    return moves


def check_twins(circuit, fault, other):
    """Raise the errors of a fault and a suspect, and TooMany of inputs."""
    check_fault(circuit, fault)
    check_stuck(circuit, other)
    check_few_inputs(circuit)


def twins_met(circuit, fault, other):
    """What is come to with both suspects, and the least word that parts them, or None."""
    check_twins(circuit, fault, other)
    known_states(Steps(circuit, fault))
    known_states(Steps(circuit, other))
    return walked((circuit.first(), circuit.first()), twin_moves(circuit, fault, other))


def showing(circuit, fault, other=None):
    """The least word that parts a fault and a suspect; None."""
    return twins_met(circuit, fault, other)[1]


def hiding(circuit, fault, other=None):
    """The hiding paper of all tuples that are come to, sorted; None."""
    came, word = twins_met(circuit, fault, other)
    return sorted(came) if word is None else None


def is_hiding(circuit, fault, other, value):
    """Whether any value is a hiding paper for a fault and a suspect."""
    check_twins(circuit, fault, other)
    width = len(circuit.first())

    def is_pair(row):
        return isinstance(row, tuple) and len(row) == 2 and is_letter(row[0], width) and is_letter(row[1], width)

    start = (circuit.first(), circuit.first())
    return is_closed(unlike_rows(value, is_pair), start, twin_moves(circuit, fault, other))


def form_of(circuit, suspect):
    """The rows of the least machine of the circuit with a suspect: equal for just those that are alike."""
    steps = Steps(circuit, suspect)
    states = known_states(steps)
    numbers = {state: at for at, state in enumerate(states)}
    rows = [[(numbers[goal], out) for goal, out in steps.row(state)] for state in states]
    return tuple([tuple(row) for row in least_rows(rows)])


def forms_of_faults(circuit):
    """The dict from all faults, sorted, to their forms, and the form of no fault."""
    check_few_inputs(circuit)
    return {fault: form_of(circuit, fault) for fault in faults(circuit)}, form_of(circuit, None)


def hidden(circuit):
    """The faults that show at no word, sorted."""
    forms, sound = forms_of_faults(circuit)
    return [fault for fault in forms if forms[fault] == sound]


def classes(circuit):
    """The faults that show, as sorted lists of those that are alike, sorted."""
    forms, sound = forms_of_faults(circuit)
    groups = {}
    for fault in forms:
        if forms[fault] != sound:
            groups.setdefault(forms[fault], []).append(fault)
    return sorted(list(groups.values()))
