"""Orders of tables: how many rows they make, the best one, and bounds that show it."""

from wirewords.bits import is_count, is_list
from wirewords.checks import check_order_of
from wirewords.diagrams import held_each_way, held_form, least_form, levels_of
from wirewords.errors import InvalidNames, TooMany, UnknownVariable
from wirewords.tables import MOST_ROWS, level_in, table_of_form

MOST_ORDERED = 6


def layers_of(form, sequence):
    """For each level of a sequence the forms that come if those ahead are held, in all ways."""
    layers = [[form]]
    for level in sequence:
        layers.append(held_each_way(layers[-1], level))
        # Each of these that hangs on anything has a row of its own in the sequence.
        if len(layers[-1]) > MOST_ROWS + 2:
            raise TooMany("rows", MOST_ROWS)
    return layers


def reordered(table, order):
    """The table, in another order of its variables, that says the same."""
    check_order_of(order, table.order())
    sequence = [table.order().index(name) for name in order]
    layers = layers_of(table.form(), sequence)
    rows = []
    places = {((), 0): 0, ((), 1): 1}
    for at in range(len(order) - 1, -1, -1):
        above = {((), 0): 0, ((), 1): 1}
        for form in layers[at]:
            if form not in above:
                low, high = [places[held_form(form, sequence[at], bit)] for bit in (0, 1)]
                rows.append((at, low, high))
                above[form] = len(rows) + 1
        places = above
    return table_of_form(list(order), least_form(rows, places[table.form()]))


def many(table):
    """The dict from the variables to how many rows the least table has for them."""
    names = [row[0] for row in table.least().rows()]
    return {name: names.count(name) for name in sorted(table.order())}


def how_many_hang(forms, level):
    """How many of some forms hang on the variable of a level."""
    return len([form for form in forms if level in levels_of(form)])


def below(table, names, name):
    """How many are below the set names of a variable."""
    order = table.order()
    if not is_list(names) or not all([isinstance(each, str) and each in order for each in names]):
        raise InvalidNames(names)
    if len(set(names)) != len(names):
        raise InvalidNames(names)
    level = level_in(order, name)
    if name in names:
        raise UnknownVariable(name)
    forms = [table.form()]
    for each in names:
        forms = held_each_way(forms, order.index(each))
    return how_many_hang(forms, level)


def hanging(table, names, forms):
    """The dict from the variables that are not among some names to how many forms hang on each."""
    order = table.order()
    return {name: how_many_hang(forms, order.index(name)) for name in order if name not in names}


def below_sets(table):
    """The dict from all sorted tuples of variables to dicts: how many are below of each other one."""
    order = table.order()
    if len(order) > MOST_ORDERED:
        raise TooMany("variables", MOST_ORDERED)
    forms = {(): [table.form()]}
    for name in sorted(order):
        for names in list(forms):
            forms[names + (name,)] = held_each_way(forms[names], order.index(name))
    return {names: hanging(table, names, forms[names]) for names in forms}


def without(names, name):
    """The tuple without a name."""
    return tuple([each for each in names if each != name])


def with_name(names, name):
    """The sorted tuple with a name more."""
    return tuple(sorted(list(names) + [name]))


def best_order(table):
    """Of all sequences of the variables with the fewest rows the first one."""
    sets = below_sets(table)
    rest = {}
    for names in sorted(list(sets), key=len, reverse=True):
        rest[names] = min([sets[names][name] + rest[with_name(names, name)] for name in sets[names]], default=0)
    told = []
    for _ in table.order():
        names = tuple(sorted(told))
        ways = [(sets[names][name] + rest[with_name(names, name)], name) for name in sets[names]]
        told.append(min(ways)[1])
    return told


def bounds(table):
    """The bounds of a table with the greatest counts."""
    sets = below_sets(table)
    found = {}
    for names in sorted(list(sets), key=len):
        steps = [found[without(names, name)] + sets[without(names, name)][name] for name in names]
        found[names] = min(steps, default=0)
    return {names: found[names] for names in sorted(found)}


def are_bounds(table, value):
    """Whether any value is bounds of a table."""
    sets = below_sets(table)
    if not isinstance(value, dict) or len(value) != len(sets):
        return False
    if not all([names in value and is_count(value[names]) for names in sets]) or value[()] != 0:
        return False
    return all([
        value[with_name(names, name)] <= value[names] + sets[names][name]
        for names in sets
        for name in sets[names]
    ])
