"""What tables say, told by levels in place of variables: the work behind tables, gates and orders.

A form is a tuple (rows, root), its rows being tuples (level, low, high), each level the position of a
variable in an order. All forms that are told here are least ones: two of one order say the same
exactly if they are equal. Operators rest on these functions, so they change nothing that they get.
"""

from wirewords.bits import bit_of

# The level of the places 0 and 1, behind those of all variables.
LAST = 16


def numbered(rows, root):
    """The rows that are come to from the root, as they are numbered, and their root."""
    numbers = {0: 0, 1: 1}
    placed = []
    todo = [root]
    while todo:
        place = todo[-1]
        if place in numbers:
            todo.pop()
            continue
        level, low, high = rows[place - 2]
        if low not in numbers:
            todo.append(low)
        elif high not in numbers:
            todo.append(high)
        else:
            numbers[place] = len(placed) + 2
            placed.append((level, numbers[low], numbers[high]))
    return tuple(placed), numbers[root]


def least_form(rows, root):
    """The least form that says what these rows say from a root."""
    firsts = [0, 1]
    found = {}
    for at, (level, low, high) in enumerate(rows):
        if firsts[low] == firsts[high]:
            firsts.append(firsts[low])
        else:
            firsts.append(found.setdefault((level, firsts[low], firsts[high]), at + 2))
    return numbered([(level, firsts[low], firsts[high]) for level, low, high in rows], firsts[root])


def variable_form(level):
    """The form that says the bit of one variable."""
    return ((level, 0, 1),), 2


def combined(kind, forms):
    """The form of what a kind of gate makes of what some forms say, one for each source."""
    tall = [[(LAST, 0, 0), (LAST, 1, 1)] + list(rows) for rows, _ in forms]
    start = tuple([root for _, root in forms])
    met = {start: True}
    todo = [start]
    branches = []
    while todo:
        places = todo.pop()
        heads = [rows[place] for rows, place in zip(tall, places)]
        level = min([LAST] + [head[0] for head in heads])
        sides = []
        for side in (1, 2):
            there = tuple([head[side] if head[0] == level else place for head, place in zip(heads, places)])
            sides.append(there)
            if there not in met:
                met[there] = True
                todo.append(there)
        branches.append((level, places, sides[0], sides[1]))
    rows, top = built(kind, branches)
    return least_form(rows, top)


def built(kind, branches):
    """Rows and root for tuples (level, places, both places of the sides), the first one the root's."""
    rows = []
    place_of = {}
    for level, places, low, high in sorted(branches, reverse=True):
        if level == LAST:
            place_of[places] = bit_of(kind, places)
        else:
            rows.append((level, place_of[low], place_of[high]))
            place_of[places] = len(rows) + 1
    return rows, place_of[branches[0][1]]


def held_form(form, level, bit):
    """What a form says if the variable of a level has a bit, whatever the letter has."""
    rows, root = form
    moved = [0, 1]
    kept = []
    for row in rows:
        if row[0] == level:
            moved.append(moved[row[1 + bit]])
        else:
            kept.append((row[0], moved[row[1]], moved[row[2]]))
            moved.append(len(kept) + 1)
    return least_form(kept, moved[root])


def levels_of(form):
    """The levels of the variables on which a form hangs, rising."""
    return sorted(set([row[0] for row in form[0]]))


def ones_of(form, width):
    """At how many letters of a width a form says 1."""
    shares = [0, 1 << width]
    for _, low, high in form[0]:
        # Of the letters that come to a row, half go to either side.
        shares.append((shares[low] + shares[high]) // 2)
    return shares[form[1]]


def least_bits(form, bit, sequence):
    """The least bits, of levels in a sequence, with which a form says a bit; None if it never does."""
    if form[1] == 1 - bit:
        return None
    bits = []
    now = form
    for level in sequence:
        low = held_form(now, level, 0)
        # A least form never says a bit only if it is the other bit's place.
        if low[1] != 1 - bit:
            bits.append(0)
            now = low
        else:
            bits.append(1)
            now = held_form(now, level, 1)
    return bits


def held_each_way(forms, level):
    """All unlike forms that come of some if the variable of a level is held at either bit."""
    met = {}
    for form in forms:
        for bit in (0, 1):
            met[held_form(form, level, bit)] = True
    return list(met)
