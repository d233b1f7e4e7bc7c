"""Tables of what is said at the letters of an order."""

from wirewords.bits import is_bit, is_count, is_letter, is_list
from wirewords.checks import check_number, check_order
from wirewords.diagrams import (
    LAST,
    combined,
    held_form,
    least_bits,
    least_form,
    levels_of,
    ones_of,
    variable_form,
)
from wirewords.errors import InvalidBit, InvalidLetter, InvalidPlace, InvalidRows, OtherOrders, UnknownVariable

MOST_ROWS = 300


def is_row(value, levels, heights):
    """Whether any value is a row behind places of these levels."""
    if not isinstance(value, tuple) or len(value) != 3:
        return False
    name, low, high = value
    if not isinstance(name, str) or name not in levels:
        return False
    for place in (low, high):
        if not is_count(place) or place >= len(heights) or heights[place] <= levels[name]:
            return False
    return True


def check_rows(rows, order):
    """Raise InvalidRows unless these are rows of a table in the order."""
    if not is_list(rows):
        raise InvalidRows(None)
    levels = {name: level for level, name in enumerate(order)}
    heights = [LAST, LAST]
    for at, row in enumerate(rows):
        if not is_row(row, levels, heights):
            raise InvalidRows(at)
        heights.append(levels[row[0]])


class Table:
    """An order, rows and a root; it never changes."""

    def __init__(self, order, rows, root):
        check_order(order)
        check_rows(rows, order)
        if not is_count(root) or root >= len(rows) + 2:
            raise InvalidPlace(root)
        check_number("rows", rows, MOST_ROWS)
        self._order = tuple(order)
        self._rows = tuple([(name, low, high) for name, low, high in rows])
        self._root = root

    def order(self):
        """The variables, in sequence."""
        return list(self._order)

    def rows(self):
        """The rows, in sequence."""
        return list(self._rows)

    @property
    def root(self):
        """The place from which is told what the table says."""
        return self._root

    def form(self):
        """The least form of this table."""
        levels = {name: level for level, name in enumerate(self._order)}
        return least_form([(levels[name], low, high) for name, low, high in self._rows], self._root)

    def says(self, letter):
        """What the table says at a letter."""
        if not is_letter(letter, len(self._order)):
            raise InvalidLetter(letter)
        place = self._root
        while place > 1:
            name, low, high = self._rows[place - 2]
            place = high if letter[self._order.index(name)] == 1 else low
        return place

    def is_least(self):
        """Whether it is the least table that says this."""
        return self == self.least()

    def least(self):
        """The least table that says the same."""
        return table_of_form(self._order, self.form())

    def __and__(self, other):
        return both_by("and", self, other)

    def __or__(self, other):
        return both_by("or", self, other)

    def __xor__(self, other):
        return both_by("xor", self, other)

    def __invert__(self):
        return table_of_form(self._order, combined("not", [self.form()]))

    def __len__(self):
        return len(self._rows)

    def __contains__(self, value):
        return isinstance(value, str) and value in hangs_on(self)

    def __eq__(self, other):
        return (
            isinstance(other, Table)
            and self._order == other._order
            and self._rows == other._rows
            and self._root == other._root
        )

    def __repr__(self):
        return f"Table({self.order()!r}, {self.rows()!r}, {self._root!r})"


def table_of_form(order, form):
    """The table, in an order, of a form."""
    rows, root = form
    return Table(order, [(order[level], low, high) for level, low, high in rows], root)


def check_orders(one, other):
    """Raise OtherOrders unless both tables have one order."""
    if one.order() != other.order():
        raise OtherOrders(one.order(), other.order())


def both_by(kind, one, other):
    """The table of what a kind of gate makes of two tables."""
    check_orders(one, other)
    return table_of_form(one.order(), combined(kind, [one.form(), other.form()]))


def level_in(order, name):
    """The level of a variable: UnknownVariable unless it is one."""
    if not isinstance(name, str) or name not in order:
        raise UnknownVariable(name)
    return order.index(name)


def check_bit(bit):
    """Raise InvalidBit unless this is a bit."""
    if not is_bit(bit):
        raise InvalidBit(bit)


def variable(order, name):
    """The table that says the bit of a variable."""
    check_order(order)
    return table_of_form(list(order), variable_form(level_in(list(order), name)))


def constant(order, bit):
    """The table that always says a bit."""
    check_order(order)
    check_bit(bit)
    return Table(order, [], bit)


def held(table, name, bit):
    """The table with a variable held at a bit."""
    level = level_in(table.order(), name)
    check_bit(bit)
    return table_of_form(table.order(), held_form(table.form(), level, bit))


def sides_of(table, name):
    """The forms of the table with a variable held at 0, and at 1."""
    level = level_in(table.order(), name)
    return [held_form(table.form(), level, bit) for bit in (0, 1)]


def some(table, name):
    """The table that says 1 where this one does for some bit of a variable."""
    return table_of_form(table.order(), combined("or", sides_of(table, name)))


def every(table, name):
    """The table that says 1 where this one does for both bits of a variable."""
    return table_of_form(table.order(), combined("and", sides_of(table, name)))


def hangs_on(table):
    """The variables on which a table hangs, in order."""
    order = table.order()
    return [order[level] for level in levels_of(table.form())]


def rises(table, name):
    """Whether a table rises with a variable."""
    low, high = sides_of(table, name)
    return combined("and", [low, combined("not", [high])]) == ((), 0)


def can_be_exchanged(table, name, second):
    """Whether two variables of a table can be exchanged."""
    level, next_level = level_in(table.order(), name), level_in(table.order(), second)
    if level == next_level:
        return True
    low, high = sides_of(table, name)
    return held_form(low, next_level, 1) == held_form(high, next_level, 0)


def how_many(table):
    """At how many letters a table says 1."""
    return ones_of(table.form(), len(table.order()))


def least_letter_of(form, bit, width):
    """The least letter of a width at which a form says a bit; None."""
    bits = least_bits(form, bit, list(range(width)))
    return None if bits is None else tuple(bits)


def least_letter(table, bit):
    """The least letter at which a table says a bit; None."""
    check_bit(bit)
    return least_letter_of(table.form(), bit, len(table.order()))


def parting(one, other):
    """The least letter that parts two tables; None."""
    check_orders(one, other)
    return least_letter_of(combined("xor", [one.form(), other.form()]), 1, len(one.order()))
