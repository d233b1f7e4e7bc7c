"""Trees that find out where a machine began, and what shows that there are none, or none so low."""

from wirewords.bits import is_count, is_letter, is_list, number_of
from wirewords.checks import check_number
from wirewords.errors import InvalidLetter, InvalidNumber
from wirewords.lots import MOST_LOTS, check_few_states, check_lot, forgets_at, is_lot, split_by
from wirewords.machines import check_machine_state


def check_asking(machine, lot, letter):
    """Raise the errors of a lot and of a letter."""
    check_lot(machine, lot)
    if not is_letter(letter, machine.width):
        raise InvalidLetter(letter)
    check_few_states(machine)


def parted(machine, lot, letter):
    """The dict from the outputs told at a letter to the lots into which they part a lot."""
    check_asking(machine, lot, letter)
    parts = split_by(machine.rows(), lot, number_of(letter))
    return {out: list(parts[out]) for out in parts}


def forgets(machine, lot, letter):
    """Whether two states of a lot tell the same at a letter and have one next state."""
    check_asking(machine, lot, letter)
    return forgets_at(machine.rows(), lot, number_of(letter))


def found_out(machine, tree, state):
    """What a tree tells at the end from a state; None where a branch lacks."""
    check_machine_state(machine, state)
    check_few_states(machine)
    here, now = tree, state
    while here[0] == "ask":
        _, letter, branches = here
        now, out = machine.step(now, letter)
        if out not in branches:
            return None
        here = branches[out]
    return here[1]


def splits_of(machine, lot):
    """For each letter the dict from outputs to the lots into which it parts a lot; None where it forgets."""
    rows = machine.rows()
    return [None if forgets_at(rows, lot, at) else split_by(rows, lot, at) for at in range(1 << machine.width)]


def further_lots(splits):
    """The lots of two or more states among those into which letters part a lot."""
    told = []
    for parts in splits:
        if parts is not None:
            told.extend([part for part in list(parts.values()) if len(part) > 1])
    return told


def lots_below(machine, lot):
    """The dict from a lot, and all lots into which letters part it, again and again, to their splits."""
    met = [tuple(lot)]
    seen = {met[0]: True}
    below = {}
    while len(below) < len(met):
        here = met[len(below)]
        below[here] = splits_of(machine, here)
        for there in further_lots(below[here]):
            if there not in seen:
                seen[there] = True
                met.append(there)
        check_number("lots", met, MOST_LOTS)
    return below


def depth_by(parts, depths):
    """The least depth of a tree that asks a letter first, by those known of its parts; None."""
    if parts is None:
        return None
    told = [0 if len(part) == 1 else depths.get(part) for part in list(parts.values())]
    return None if None in told else 1 + max(told)


def depths_below(below):
    """The dict to the least depths from those lots of two or more states that some tree finds out."""
    depths = {}
    left = [lot for lot in below if len(lot) > 1]
    while True:
        # What is found in a round needs what was found in the one ahead, so it is deeper by one.
        fresh = {}
        for lot in left:
            asked = [depth_by(parts, depths) for parts in below[lot]]
            fresh[lot] = min([each for each in asked if each is not None], default=None)
        left = [lot for lot in left if fresh[lot] is None]
        if len(left) == len(fresh):
            return depths
        for lot in fresh:
            if fresh[lot] is not None:
                depths[lot] = fresh[lot]


def ends_behind(row_of, ends):
    """The dict from the outputs told at a letter, sorted, to such ends: dicts from states to where each began."""
    found = {}
    for state in ends:
        goal, out = row_of[state]
        found.setdefault(out, {})[goal] = ends[state]
    return {out: found[out] for out in sorted(found)}


def tree_for(machine, below, depths, ends):
    """A tree of the least depth; ends is the dict from the states where the machine may be to where it began."""
    lot = tuple(sorted(ends))
    if len(lot) == 1:
        return "is", ends[lot[0]]
    best = [at for at, parts in enumerate(below[lot]) if depth_by(parts, depths) == depths[lot]][0]
    behind = ends_behind([row[best] for row in machine.rows()], ends)
    branches = {}
    for out in behind:
        branches[out] = tree_for(machine, below, depths, behind[out])
    return "ask", machine.letters()[best], branches


def searched(machine, lot):
    """The lots below a lot with their splits, and the dict to the least depths: TooMany if there are too many."""
    check_few_states(machine)
    below = lots_below(machine, lot)
    return below, depths_below(below)


def tree(machine, lot):
    """A tree of the least depth that finds out a lot; None."""
    check_lot(machine, lot)
    below, depths = searched(machine, lot)
    if len(lot) > 1 and tuple(lot) not in depths:
        return None
    return tree_for(machine, below, depths, {state: state for state in lot})


def depth(machine, lot):
    """The least depth of a tree that finds out a lot; None."""
    check_lot(machine, lot)
    _, depths = searched(machine, lot)
    return 0 if len(lot) == 1 else depths.get(tuple(lot))


def stuck(machine, lot):
    """A stuck family for a lot; None."""
    check_lot(machine, lot)
    below, depths = searched(machine, lot)
    if len(lot) == 1 or tuple(lot) in depths:
        return None
    return [list(each) for each in below if each not in depths]


def check_count(number):
    """Raise InvalidNumber unless this is a count."""
    if not is_count(number):
        raise InvalidNumber(number)


def deep(machine, lot, number):
    """A deep table for a lot against a number; None."""
    check_lot(machine, lot)
    check_count(number)
    below, depths = searched(machine, lot)
    # No tree is so low as to tell more than the number and one wants.
    table = {each: min(depths.get(each, number + 1), number + 1) for each in sorted(below)}
    return table if len(lot) > 1 and table[tuple(lot)] > number else None


def trees_below(machine, told, ends):
    """What is to be judged below any value that is to be a tree: tuples (value, ends); None if it is none."""
    if not isinstance(told, tuple) or len(told) < 2 or not isinstance(told[0], str):
        return None
    if told[0] == "is" and len(told) == 2:
        right = is_count(told[1]) and list(ends.values()) == [told[1]]
        return [] if right else None
    if told[0] != "ask" or len(told) != 3 or not is_letter(told[1], machine.width) or not isinstance(told[2], dict):
        return None
    at = number_of(told[1])
    if forgets_at(machine.rows(), list(ends), at):
        return None
    behind = ends_behind([row[at] for row in machine.rows()], ends)
    if len(told[2]) != len(behind) or not all([is_letter(out, machine.out_width) for out in told[2]]):
        return None
    if not all([out in behind for out in told[2]]):
        return None
    return [(told[2][out], behind[out]) for out in behind]


def is_tree(machine, lot, value):
    """Whether any value is a tree that finds out a lot."""
    check_lot(machine, lot)
    check_few_states(machine)
    todo = [(value, {state: state for state in lot})]
    while todo:
        told, ends = todo.pop()
        further = trees_below(machine, told, ends)
        if further is None:
            return False
        todo.extend(further)
    return True


def are_kept(machine, lot, is_kept):
    """Whether each letter forgets in a lot, or parts it into lots of which one is kept."""
    splits = [parts for parts in splits_of(machine, lot) if parts is not None]
    return all([any([is_kept(part) for part in list(parts.values())]) for parts in splits])


def is_stuck(machine, lot, value):
    """Whether any value is a stuck family for a lot."""
    check_lot(machine, lot)
    check_few_states(machine)
    if not is_list(value) or not all([is_lot(machine, each) and len(each) > 1 for each in value]):
        return False
    family = {tuple(each): True for each in value}
    if len(family) != len(value) or tuple(lot) not in family:
        return False
    return all([are_kept(machine, each, lambda part: part in family) for each in family])


def is_deep_at(machine, lot, table):
    """Whether the count of a lot in a table is right."""
    return are_kept(machine, lot, lambda part: table.get(part, 0) >= table[lot] - 1)


def is_deep(machine, lot, number, value):
    """Whether any value is a deep table for a lot against a number."""
    check_lot(machine, lot)
    check_count(number)
    check_few_states(machine)
    if not isinstance(value, dict):
        return False
    for each in value:
        if not is_lot(machine, each) or len(each) < 2 or not is_count(value[each]) or value[each] == 0:
            return False
    if value.get(tuple(lot), 0) <= number:
        return False
    return all([is_deep_at(machine, each, value) for each in value])
