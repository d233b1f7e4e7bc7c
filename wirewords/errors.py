"""The errors of all stages, in four families."""


class WireError(ValueError):
    """A value, or a part of one, is not as it should be."""


class MissingError(LookupError):
    """A name that is asked for is not there."""


class StateError(RuntimeError):
    """Things that do not go together, or are not in the form that is wanted."""


class LimitError(ArithmeticError):
    """More than the program lets."""


class InvalidWidth(WireError):
    """No width that is let."""

    def __init__(self, value):
        self.value = value


class InvalidKind(WireError):
    """No kind of gate."""

    def __init__(self, value):
        self.value = value


class InvalidBits(WireError):
    """No list of as many bits as are wanted."""

    def __init__(self, value):
        self.value = value


class InvalidBit(WireError):
    """Neither 0 nor 1."""

    def __init__(self, value):
        self.value = value


class InvalidName(WireError):
    """No name."""

    def __init__(self, value):
        self.value = value


class InvalidNames(WireError):
    """No names of the sort that is wanted."""

    def __init__(self, value):
        self.value = value


class InvalidInputs(WireError):
    """No list of inputs, or a wrong one at a position."""

    def __init__(self, position):
        self.position = position


class InvalidGates(WireError):
    """No list of gates, or a wrong one at a position."""

    def __init__(self, position):
        self.position = position


class InvalidRegisters(WireError):
    """No list of registers, or a wrong one at a position."""

    def __init__(self, position):
        self.position = position


class InvalidOutputs(WireError):
    """No list of outputs, or a wrong one at a position."""

    def __init__(self, position):
        self.position = position


class InvalidSources(WireError):
    """No list of as many wires as a kind wants."""

    def __init__(self, value):
        self.value = value


class InvalidLetter(WireError):
    """No letter of the width that is wanted."""

    def __init__(self, value):
        self.value = value


class InvalidWord(WireError):
    """No word of the width that is wanted."""

    def __init__(self, value):
        self.value = value


class InvalidState(WireError):
    """No state."""

    def __init__(self, value):
        self.value = value


class InvalidFault(WireError):
    """No fault."""

    def __init__(self, value):
        self.value = value


class InvalidOrder(WireError):
    """No order, or not one of the variables that are there."""

    def __init__(self, value):
        self.value = value


class InvalidRows(WireError):
    """No list of rows, or a wrong one at a position."""

    def __init__(self, position):
        self.position = position


class InvalidPlace(WireError):
    """No place."""

    def __init__(self, value):
        self.value = value


class InvalidNumber(WireError):
    """No number that is let."""

    def __init__(self, value):
        self.value = value


class InvalidStanding(WireError):
    """No standing of a tangle."""

    def __init__(self, value):
        self.value = value


class InvalidRun(WireError):
    """No list of gates, or one at a position that does not want to turn."""

    def __init__(self, position):
        self.position = position


class InvalidGoes(WireError):
    """No list of dicts to places, or a wrong one at a position."""

    def __init__(self, position):
        self.position = position


class InvalidPattern(WireError):
    """No pattern."""

    def __init__(self, value):
        self.value = value


class TooLong(WireError):
    """A name that would have more than twelve signs."""

    def __init__(self, name):
        self.name = name


class GateRing(WireError):
    """A gate that stands on a ring of gates."""

    def __init__(self, name):
        self.name = name


class UnknownWire(MissingError):
    """No wire of the sort that is wanted."""

    def __init__(self, value):
        self.value = value


class UnknownVariable(MissingError):
    """No variable of the order."""

    def __init__(self, value):
        self.value = value


class OtherWidth(StateError):
    """Two numbers of wires, or widths, that should be equal."""

    def __init__(self, one, other):
        self.one = one
        self.other = other


class OtherWidths(StateError):
    """Two things whose widths should be equal."""

    def __init__(self, one, other):
        self.one = one
        self.other = other


class OtherOrders(StateError):
    """Two orders that should be equal."""

    def __init__(self, one, other):
        self.one = one
        self.other = other


class OtherVariables(StateError):
    """Two circuits whose variables should be equal."""

    def __init__(self, one, other):
        self.one = one
        self.other = other


class HasRegisters(StateError):
    """A register where none is wanted."""

    def __init__(self, name):
        self.name = name


class NotLate(StateError):
    """An output that hangs on an input without a register between."""

    def __init__(self, name):
        self.name = name


class NotLasting(StateError):
    """A place from which nothing leads on."""

    def __init__(self, place):
        self.place = place


class NotFitting(StateError):
    """A word that does not fit a pattern."""

    def __init__(self, word):
        self.word = word


class TooMany(LimitError):
    """More of something than its limit."""

    def __init__(self, what, limit):
        self.what = what
        self.limit = limit
