"""Suspects that words part: lots of their positions, telling trees, and what stubborn papers are made of.

TOLD is, for each word of a menu, the list of the answers of all suspects, as tuples.
"""

from wirewords.bits import is_count, is_list, is_word


def is_rising(value, many):
    """Whether any value, a list or a tuple, has rising positions below a number alone."""
    if not all([is_count(at) and at < many for at in value]):
        return False
    return all([one < other for one, other in zip(value, value[1:])])


def is_lot(value, many):
    """Whether any value is a tuple of rising positions of so many suspects."""
    return isinstance(value, tuple) and is_rising(value, many)


def everyone(suspects):
    """The lot of all suspects."""
    return tuple(range(len(suspects)))


def parts_of(lot, answers):
    """The list of the tuples (answer, lot) into which the answers of a word part a lot, sorted."""
    found = {}
    for at in lot:
        found.setdefault(answers[at], []).append(at)
    return [(each, tuple(found[each])) for each in sorted(found)]


def is_undecided(lot, told):
    """Whether some word parts two of a lot."""
    return any([len(parts_of(lot, answers)) > 1 for answers in told])


def depths_of(lot, told):
    """The dict from a lot, and the lots into which words part it, again and again, to their least depths."""
    met = [lot]
    seen = {lot: True}
    at = 0
    while at < len(met):
        here = met[at]
        further = [part for answers in told for _, part in parts_of(here, answers)]
        for there in further:
            if there not in seen:
                seen[there] = True
                met.append(there)
        at += 1
    depths = {}
    # What a word parts a lot into is shorter, so that it is known first.
    for each in sorted(met, key=len):
        splits = [parts_of(each, answers) for answers in told]
        asked = [max([depths[part] for _, part in parts]) for parts in splits if len(parts) > 1]
        depths[each] = 1 + min(asked) if asked else 0
    return depths


def tree_for(lot, told, depths):
    """A telling tree of the least depth for a lot."""
    if depths[lot] == 0:
        return "left", list(lot)
    splits = [parts_of(lot, answers) for answers in told]
    # A word that parts nothing leaves the lot itself, which is no less deep.
    best = [at for at, parts in enumerate(splits) if max([depths[part] for _, part in parts]) < depths[lot]][0]
    return "ask", best, [(list(each), tree_for(part, told, depths)) for each, part in splits[best]]


def is_list_of(value, expected):
    """Whether any value is a list of just these positions, a list or a tuple."""
    return is_list(value) and all([is_count(at) for at in value]) and list(value) == expected


def is_same_answer(value, each, width):
    """Whether any value is, as a list, this answer of tuples of a width."""
    return is_word(value, width) and tuple(value) == each


def branches_below(tree, lot, told, width):
    """What is to be judged below any value that is to be a telling tree: tuples (tree, lot); None if it is none."""
    if not isinstance(tree, tuple) or len(tree) < 2 or not isinstance(tree[0], str):
        return None
    if len(tree) == 2:
        right = tree[0] == "left" and is_list_of(tree[1], list(lot)) and not is_undecided(lot, told)
        return [] if right else None
    if len(tree) != 3 or tree[0] != "ask" or not is_count(tree[1]) or tree[1] >= len(told):
        return None
    parts = parts_of(lot, told[tree[1]])
    if not is_list(tree[2]) or len(tree[2]) != len(parts):
        return None
    for branch, (each, _) in zip(tree[2], parts):
        if not isinstance(branch, tuple) or len(branch) != 2 or not is_same_answer(branch[0], each, width):
            return None
    return [(branch[1], part) for branch, (_, part) in zip(tree[2], parts)]


def deepest_part(lot, answers, depths):
    """The first of the lots with the greatest least depth into which answers part a lot."""
    parts = [part for _, part in parts_of(lot, answers)]
    most = max([depths[part] for part in parts])
    return [part for part in parts if depths[part] == most][0]


def is_stubborn_key(value, many):
    """Whether any value is a tuple of a lot and a count."""
    return isinstance(value, tuple) and len(value) == 2 and is_lot(value[0], many) and is_count(value[1])


def is_stubborn_at(paper, key, told, many):
    """Whether what a paper has for a key is right."""
    lot, left = key
    picked = paper[key]
    if not is_undecided(lot, told) or not is_list(picked):
        return False
    if left == 0 or len(picked) != len(told):
        return left == 0 and len(picked) == 0
    for part, answers in zip(picked, told):
        if not is_lot(part, many) or (part, left - 1) not in paper:
            return False
        if part not in [each for _, each in parts_of(lot, answers)]:
            return False
    return True
