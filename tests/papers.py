"""Values with one thing changed somewhere, by which what judges any value is tried."""

import random


def changed_leaf(value):
    """Other values in the place of one that has no parts."""
    if isinstance(value, bool):
        return [None, int(value)]
    if isinstance(value, int):
        return [value + 1, value - 1, True, False, None, str(value), (value,), 10 ** 29]
    if isinstance(value, str):
        return ["", value + "z", None, 0, (value,)]
    return [None, 0, "x", ()]


def variants(value):
    """Each value that is this one with an element more, less, otherwise, twice, or of another kind."""
    yield from changed_leaf(value)
    if isinstance(value, (list, tuple)):
        kind = type(value)
        rows = list(value)
        yield tuple(rows) if kind is list else rows
        yield {at: row for at, row in enumerate(rows)}
        yield kind(rows + [None])
        for at, row in enumerate(rows):
            yield kind(rows[:at] + rows[at + 1:])
            yield kind(rows[:at] + [row] + rows[at:])
            if at > 0:
                yield kind(rows[:at - 1] + [rows[at], rows[at - 1]] + rows[at + 1:])
            for other in variants(row):
                yield kind(rows[:at] + [other] + rows[at + 1:])
    if isinstance(value, dict):
        yield list(value.items())
        yield list(value)
        for key in value:
            rest = {each: value[each] for each in value if each != key}
            yield rest
            for other in variants(key):
                if is_key(other):
                    yield {**rest, other: value[key]}
                    if other not in value:
                        yield {**value, other: value[key]}
            for other in variants(value[key]):
                yield {**rest, key: other}


def is_key(value):
    try:
        hash(value)
    except TypeError:
        return False
    return True


def some_variants(value, many, seed=0):
    """At most so many of the variants."""
    found = list(variants(value))
    random.Random(seed).shuffle(found)
    return found[:many]


def is_int(value, least=None, below=None):
    """Whether a value is an integer, no bool, within limits."""
    if type(value) is not int:
        return False
    return (least is None or value >= least) and (below is None or value < below)


def is_bits(value, width):
    return type(value) is tuple and len(value) == width and all(is_int(bit, 0, 2) for bit in value)


def is_listed(value):
    return type(value) in (list, tuple)


def is_rising(value, below):
    """Whether a value is a list of rising counts below a number."""
    return is_listed(value) and all(is_int(at, 0, below) for at in value) and list(value) == sorted(set(value))


def is_said(value, width):
    """Whether a value is a word of a width."""
    return is_listed(value) and all(is_bits(letter, width) for letter in value)
