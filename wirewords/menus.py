"""Menus of words: fewest tests, trees that tell suspects, and words at which faults show together."""

from wirewords.bits import all_bits, is_count, is_letter, is_list, is_word
from wirewords.checks import is_fault
from wirewords.errors import InvalidNumber, TooMany
from wirewords.faults import check_few_inputs
from wirewords.refusals import InvalidFaults, InvalidMenu, InvalidSuspects
from wirewords.telling import (
    branches_below,
    deepest_part,
    depths_of,
    everyone,
    is_rising,
    is_stubborn_at,
    is_stubborn_key,
    tree_for,
)
from wirewords.walks import Steps, is_closed, unlike_rows, walked, word_to

MOST_WORDS = 16
MOST_FAULTS = 24
MOST_TOGETHER = 4
MOST_SUSPECTS = 8
MOST_STANDINGS = 2000
GREATEST_NUMBER = 3


def check_menu(circuit, menu):
    """Raise InvalidMenu unless this is a menu of the circuit."""
    if not is_list(menu) or not 1 <= len(menu) <= MOST_WORDS:
        raise InvalidMenu(None)
    met = {}
    for at, word in enumerate(menu):
        if not is_word(word, len(circuit.inputs())) or tuple(word) in met:
            raise InvalidMenu(at)
        met[tuple(word)] = True


def check_faults(circuit, some, most):
    """Raise InvalidFaults unless this is a list of at most so many unlike faults, and not empty."""
    if not is_list(some) or not 1 <= len(some) <= most:
        raise InvalidFaults(None)
    met = {}
    for at, fault in enumerate(some):
        if not is_fault(circuit, fault) or fault in met:
            raise InvalidFaults(at)
        met[fault] = True


def check_suspects(circuit, suspects):
    """Raise InvalidSuspects unless this is a list of unlike suspects, and neither empty nor too long."""
    if not is_list(suspects) or not 1 <= len(suspects) <= MOST_SUSPECTS:
        raise InvalidSuspects(None)
    met = {}
    for at, suspect in enumerate(suspects):
        if suspect is not None and not is_fault(circuit, suspect) or suspect in met:
            raise InvalidSuspects(at)
        met[suspect] = True


def check_covering(circuit, menu, some):
    """Raise the errors of a menu and of faults."""
    check_menu(circuit, menu)
    check_faults(circuit, some, MOST_FAULTS)
    check_few_inputs(circuit)


def shown_at(circuit, menu, some):
    """For each fault the rising positions at which it shows, of what is known to be right."""
    steps = Steps(circuit)
    sound = [steps.answer(word) for word in menu]
    told = []
    for fault in some:
        stuck = Steps(circuit, fault)
        told.append([at for at, word in enumerate(menu) if stuck.answer(word) != sound[at]])
    return told


def places_of(circuit, menu, some):
    """For each fault the sorted list of the positions at which it shows."""
    check_covering(circuit, menu, some)
    return shown_at(circuit, menu, some)


def mask_of(places):
    """Positions as the bits of one number."""
    return sum([1 << at for at in places])


def covers(masks, picked):
    """Whether each fault that shows at some positions, told as bits, shows at one that is picked."""
    taken = mask_of(picked)
    for mask in masks:
        if mask != 0 and mask & taken == 0:
            return False
    return True


def is_cover(circuit, menu, some, value):
    """Whether any value is a cover."""
    check_covering(circuit, menu, some)
    if not is_list(value) or not is_rising(value, len(menu)):
        return False
    return covers([mask_of(places) for places in shown_at(circuit, menu, some)], value)


def fewest_of(shown, many):
    """The first of the covers with the fewest of so many positions."""
    masks = [mask_of(places) for places in shown]
    lists = [[]]
    while True:
        for picked in lists:
            if covers(masks, picked):
                return picked
        lists = [picked + [at] for picked in lists for at in range(picked[-1] + 1 if picked else 0, many)]


def fewest_tests(circuit, menu, some):
    """Of the covers with the fewest positions the first one."""
    check_covering(circuit, menu, some)
    return fewest_of(shown_at(circuit, menu, some), len(menu))


def check_against(circuit, menu, some, number):
    """Raise the errors of a menu, of faults, and of a number from 0 to 3."""
    check_menu(circuit, menu)
    check_faults(circuit, some, MOST_FAULTS)
    if not is_count(number) or number > GREATEST_NUMBER:
        raise InvalidNumber(number)
    check_few_inputs(circuit)


def against(some, shown, picked, number):
    """A tree against a number behind positions with which so many more are no cover."""
    left = [at for at, places in enumerate(shown) if places and not any([place in picked for place in places])]
    branches = []
    if number > 0:
        branches = [against(some, shown, picked + [place], number - 1) for place in shown[left[0]]]
    return some[left[0]], branches


def tree_against(circuit, menu, some, number):
    """A tree against a number; None."""
    check_against(circuit, menu, some, number)
    shown = shown_at(circuit, menu, some)
    if len(fewest_of(shown, len(menu))) <= number:
        return None
    return against(some, shown, [], number)


def is_against(shown, picked, number, value):
    """Whether any value is a tree against a number behind positions; shown is a dict from the faults."""
    if not isinstance(value, tuple) or len(value) != 2:
        return False
    fault, branches = value
    if not isinstance(fault, tuple) or len(fault) != 2 or not isinstance(fault[0], str) or not is_count(fault[1]):
        return False
    if fault not in shown or not is_list(branches):
        return False
    places = shown[fault]
    if not places or any([place in picked for place in places]):
        return False
    if number == 0:
        return len(branches) == 0
    if len(branches) != len(places):
        return False
    return all([is_against(shown, picked + [at], number - 1, each) for at, each in zip(places, branches)])


def is_tree_against(circuit, menu, some, number, value):
    """Whether any value is a tree against a number."""
    check_against(circuit, menu, some, number)
    shown = {fault: places for fault, places in zip(some, shown_at(circuit, menu, some))}
    return is_against(shown, [], number, value)


def check_telling(circuit, menu, suspects):
    """Raise the errors of a menu and of suspects."""
    check_menu(circuit, menu)
    check_suspects(circuit, suspects)
    check_few_inputs(circuit)


def all_answers(circuit, menu, suspects):
    """For each word of a menu the list of the suspects' answers, as tuples."""
    steps = [Steps(circuit, suspect) for suspect in suspects]
    return [[tuple(each.answer(word)) for each in steps] for word in menu]


def telling_tree(circuit, menu, suspects):
    """A telling tree of the least depth."""
    check_telling(circuit, menu, suspects)
    told = all_answers(circuit, menu, suspects)
    lot = everyone(suspects)
    return tree_for(lot, told, depths_of(lot, told))


def least_depth(circuit, menu, suspects):
    """The least depth of a telling tree."""
    check_telling(circuit, menu, suspects)
    lot = everyone(suspects)
    return depths_of(lot, all_answers(circuit, menu, suspects))[lot]


def is_telling_tree(circuit, menu, suspects, value):
    """Whether any value is a telling tree, of whatever depth."""
    check_telling(circuit, menu, suspects)
    told = all_answers(circuit, menu, suspects)
    todo = [(value, everyone(suspects))]
    while todo:
        tree, lot = todo.pop()
        below = branches_below(tree, lot, told, len(circuit.outputs()))
        if below is None:
            return False
        todo.extend(below)
    return True


def check_stubborn(circuit, menu, suspects, number):
    """Raise the errors of a menu, of suspects, and of a count."""
    check_menu(circuit, menu)
    check_suspects(circuit, suspects)
    if not is_count(number):
        raise InvalidNumber(number)
    check_few_inputs(circuit)


def stubborn(circuit, menu, suspects, number):
    """A stubborn paper for a number; None."""
    check_stubborn(circuit, menu, suspects, number)
    told = all_answers(circuit, menu, suspects)
    start = everyone(suspects)
    depths = depths_of(start, told)
    if depths[start] <= number:
        return None
    paper = {}
    todo = [(start, number)]
    while todo:
        lot, left = todo.pop()
        if (lot, left) not in paper:
            picked = [] if left == 0 else [deepest_part(lot, answers, depths) for answers in told]
            paper[(lot, left)] = picked
            todo.extend([(part, left - 1) for part in picked])
    return {key: paper[key] for key in sorted(paper)}


def is_stubborn(circuit, menu, suspects, number, value):
    """Whether any value is a stubborn paper for a number."""
    check_stubborn(circuit, menu, suspects, number)
    many = len(suspects)
    if not isinstance(value, dict) or not all([is_stubborn_key(key, many) for key in value]):
        return False
    told = all_answers(circuit, menu, suspects)
    if (everyone(suspects), number) not in value:
        return False
    return all([is_stubborn_at(value, key, told, many) for key in value])


def check_together(circuit, some):
    """Raise the errors of a few faults."""
    check_faults(circuit, some, MOST_TOGETHER)
    check_few_inputs(circuit)


def mark_behind(row, at, out):
    """What a mark becomes: None if the fault shows, otherwise the next state with it."""
    return None if row is None or row[at][1] != out else row[at][0]


def standing_moves(circuit, some):
    """The moves of standings."""
    letters, sound, broken = all_bits(len(circuit.inputs())), Steps(circuit), [Steps(circuit, fault) for fault in some]

    def moves(here):
        state, marks = here
        rows = [None if mark is None else each.row(mark) for mark, each in zip(marks, broken)]
        told = []
        for at, (following, out) in enumerate(sound.row(state)):
            told.append((letters[at], (following, tuple([mark_behind(row, at, out) for row in rows]))))
        return told

    return moves


def first_standing(circuit, some):
    """The standing of the empty word."""
    return circuit.first(), tuple([circuit.first() for _ in some])


def all_shown(standing):
    """Whether a standing has None alone among its marks."""
    return all([mark is None for mark in standing[1]])


def standings_met(circuit, some):
    """The standings that are come to, as walked tells them: TooMany if there are too many."""
    check_together(circuit, some)
    came, _ = walked(first_standing(circuit, some), standing_moves(circuit, some), MOST_STANDINGS)
    if len(came) > MOST_STANDINGS:
        raise TooMany("standings", MOST_STANDINGS)
    return came


def joint_word(circuit, some):
    """The least word at which faults show together; None."""
    came = standings_met(circuit, some)
    found = [standing for standing in came if all_shown(standing)]
    return word_to(came, found[0]) if found else None


def joint_paper(circuit, some):
    """The paper against faults of all standings that are come to, as they are; None."""
    came = standings_met(circuit, some)
    return None if any([all_shown(standing) for standing in came]) else list(came)


def is_standing(value, width, many):
    """Whether any value is a standing of so many faults."""
    if not isinstance(value, tuple) or len(value) != 2 or not is_letter(value[0], width):
        return False
    if not isinstance(value[1], tuple) or len(value[1]) != many:
        return False
    return all([mark is None or is_letter(mark, width) for mark in value[1]])


def is_joint_paper(circuit, some, value):
    """Whether any value is a paper against faults."""
    check_together(circuit, some)
    width = len(circuit.first())
    rows = unlike_rows(value, lambda row: is_standing(row, width, len(some)))
    if rows is None or any([all_shown(standing) for standing in rows]):
        return False
    return is_closed(rows, first_standing(circuit, some), standing_moves(circuit, some))
