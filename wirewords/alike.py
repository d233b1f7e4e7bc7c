"""Machines and states that answer alike, or are parted by words."""

from wirewords.bits import is_count, is_list, is_word
from wirewords.errors import InvalidNumber, OtherWidths
from wirewords.machines import Machine, check_machine_state
from wirewords.states import machine_of
from wirewords.walks import is_closed, least_rows, rounds_of, unlike_rows, walked, word_to


def check_widths(one, other):
    """Raise OtherWidths unless both machines have the same widths."""
    if one.width != other.width or one.out_width != other.out_width:
        raise OtherWidths(one, other)


def pair_moves(one, other):
    """The moves of pairs of states, which lead out where unlike outputs are told."""
    letters, ours, theirs = one.letters(), one.rows(), other.rows()

    def moves(pair):
        told = []
        for letter, (goal, out), (twin, said) in zip(letters, ours[pair[0]], theirs[pair[1]]):
            told.append((letter, (goal, twin) if out == said else None))
        return told

    return moves


def parting(one, other):
    """The least word that parts two machines; None."""
    check_widths(one, other)
    return walked((0, 0), pair_moves(one, other))[1]


def are_alike(one, other):
    """Whether two machines have the same answers to all words."""
    return parting(one, other) is None


def relation(one, other):
    """The least relation of two machines, sorted; None."""
    check_widths(one, other)
    came, word = walked((0, 0), pair_moves(one, other))
    return sorted(came) if word is None else None


def is_state(machine, value):
    """Whether any value is the number of a state."""
    return is_count(value) and value < len(machine)


def is_relation(one, other, value):
    """Whether any value is a relation of two machines."""
    check_widths(one, other)

    def is_pair(row):
        return isinstance(row, tuple) and len(row) == 2 and is_state(one, row[0]) and is_state(other, row[1])

    return is_closed(unlike_rows(value, is_pair), (0, 0), pair_moves(one, other))


def is_parting(one, other, value):
    """Whether any value is a word that parts two machines."""
    check_widths(one, other)
    if not is_word(value, one.width) or len(value) == 0:
        return False
    return one.answer(value)[-1] != other.answer(value)[-1]


def are_circuits_alike(one, other):
    """Whether two circuits have the same answers to all words."""
    if len(one.inputs()) != len(other.inputs()) or len(one.outputs()) != len(other.outputs()):
        raise OtherWidths(one, other)
    return are_alike(machine_of(one), machine_of(other))


def grouped(classes):
    """The classes as sorted lists of their states, sorted."""
    groups = {}
    for at, number in enumerate(classes):
        groups.setdefault(number, []).append(at)
    return sorted(list(groups.values()))


def rounds(machine):
    """The rounds of a machine, the last two of them equal."""
    return [grouped(classes) for classes in rounds_of(machine.rows())]


def parting_by(machine, told, state, other):
    """The least word that parts two states, by the rounds of the machine; None."""
    unlike = [at for at, classes in enumerate(told) if classes[state] != classes[other]]
    if not unlike:
        return None
    letters, rows = machine.letters(), machine.rows()
    one, two = state, other
    word = []
    for number in reversed(range(unlike[0])):
        # Both states are parted by a letter and a word for which a round less is enough.
        leads = [
            (letter, goal, twin)
            for letter, (goal, out), (twin, said) in zip(letters, rows[one], rows[two])
            if out != said or told[number][goal] != told[number][twin]
        ]
        letter, one, two = leads[0]
        word.append(letter)
    return word


def parting_states(machine, state, other):
    """The least word that parts two states of a machine; None."""
    check_machine_state(machine, state)
    check_machine_state(machine, other)
    return parting_by(machine, rounds_of(machine.rows()), state, other)


def least(machine):
    """The machine with the fewest states of all that are alike to a machine."""
    return Machine(machine.width, machine.out_width, least_rows(machine.rows()))


def needed(machine):
    """How many states each machine has at least that is alike to a machine."""
    return len(least(machine))


def check_need(number):
    """Raise InvalidNumber unless this is a count greater than 0."""
    if not is_count(number) or number == 0:
        raise InvalidNumber(number)


def need_paper(machine, number):
    """A need paper for a machine and a number; None."""
    check_need(number)
    small = least(machine)
    if number > len(small):
        return None
    letters, rows, told = small.letters(), small.rows(), rounds_of(small.rows())
    came, _ = walked(0, lambda state: [(letter, goal) for letter, (goal, _) in zip(letters, rows[state])])
    words = [word_to(came, state) for state in range(number)]
    pairs = [(one, other) for one in range(number) for other in range(one + 1, number)]
    return words, {(one, other): parting_by(small, told, one, other) for one, other in pairs}


def is_pair_of_positions(value, many):
    """Whether any value is a tuple of two rising positions below a number."""
    if not isinstance(value, tuple) or len(value) != 2 or not is_count(value[0]) or not is_count(value[1]):
        return False
    return value[0] < value[1] < many


def is_need_paper(machine, number, value):
    """Whether any value is a need paper for a machine and a number."""
    check_need(number)
    if not isinstance(value, tuple) or len(value) != 2:
        return False
    words, partings = value
    if not is_list(words) or len(words) != number or not isinstance(partings, dict):
        return False
    if not all([is_word(word, machine.width) for word in words]):
        return False
    if len(partings) != number * (number - 1) // 2 or not all([is_pair_of_positions(at, number) for at in partings]):
        return False
    begun = [machine.begun(machine.behind(word)) for word in words]
    return all([is_parting(begun[one], begun[other], partings[(one, other)]) for one, other in partings])


def stands_for(machine, other):
    """The least state from which on a machine stands for another one; None."""
    check_widths(machine, other)
    many = len(machine)
    beside = [[(goal + many, out) for goal, out in row] for row in other.rows()]
    classes = rounds_of(machine.rows() + beside)[-1]
    found = [state for state in range(many) if classes[state] == classes[many]]
    return found[0] if found else None
