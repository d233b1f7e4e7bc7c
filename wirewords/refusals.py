"""The errors of the later stages, of the families in errors."""

from wirewords.errors import MissingError, StateError, WireError


class InvalidMenu(WireError):
    """No menu, or a wrong word at a position."""

    def __init__(self, position):
        self.position = position


class InvalidFaults(WireError):
    """No list of faults, or a wrong one at a position."""

    def __init__(self, position):
        self.position = position


class InvalidSuspects(WireError):
    """No list of suspects, or a wrong one at a position."""

    def __init__(self, position):
        self.position = position


class InvalidDelays(WireError):
    """No dict of gates with delays, or a wrong one under a name."""

    def __init__(self, name):
        self.name = name


class InvalidWay(WireError):
    """No way of the wiring."""

    def __init__(self, value):
        self.value = value


class InvalidBeat(WireError):
    """No beat."""

    def __init__(self, value):
        self.value = value


class InvalidLags(WireError):
    """No lags of the wiring."""

    def __init__(self, value):
        self.value = value


class InvalidItem(WireError):
    """No item for the beat."""

    def __init__(self, value):
        self.value = value


class InvalidFlow(WireError):
    """No flow against the beat."""

    def __init__(self, value):
        self.value = value


class InvalidLot(WireError):
    """No lot."""

    def __init__(self, value):
        self.value = value


class InvalidAnswer(WireError):
    """No answer of the length and width that are wanted."""

    def __init__(self, value):
        self.value = value


class InvalidTable(WireError):
    """No table of questions."""

    def __init__(self, value):
        self.value = value


class InvalidWords(WireError):
    """No list of words, or a wrong one at a position."""

    def __init__(self, position):
        self.position = position


class InvalidFeeds(WireError):
    """No list of feeds, or a wrong one at a position."""

    def __init__(self, position):
        self.position = position


class InvalidHoles(WireError):
    """No list of holes, or a wrong one at a position."""

    def __init__(self, position):
        self.position = position


class InvalidHands(WireError):
    """No list of our inputs, or a wrong one at a position."""

    def __init__(self, position):
        self.position = position


class InvalidNode(WireError):
    """No node of the game."""

    def __init__(self, value):
        self.value = value


class InvalidPlan(WireError):
    """No plan, or no spoiler, of the game."""

    def __init__(self, value):
        self.value = value


class InvalidThing(WireError):
    """No thing of a class that is let."""

    def __init__(self, value):
        self.value = value


class InvalidText(WireError):
    """No written form: the line that is wrong."""

    def __init__(self, line):
        self.line = line


class InvalidClaim(WireError):
    """No claim."""

    def __init__(self, value):
        self.value = value


class InvalidParts(WireError):
    """No list of parts, or a wrong one at a position."""

    def __init__(self, position):
        self.position = position


class InvalidCommand(WireError):
    """No command."""

    def __init__(self, value):
        self.value = value


class BareRing(WireError):
    """A gate that stands on a ring without bits."""

    def __init__(self, name):
        self.name = name


class UnknownGate(MissingError):
    """No gate of the wiring."""

    def __init__(self, value):
        self.value = value


class UnknownName(MissingError):
    """No name of a thing or a note."""

    def __init__(self, value):
        self.value = value


class CannotGo(StateError):
    """A gate of which a source has no bit."""

    def __init__(self, value):
        self.value = value


class NotClosed(StateError):
    """A table of questions with a gap."""

    def __init__(self, value):
        self.value = value


class DoesNotFit(StateError):
    """A box with other numbers of wires than the frame has feeds and holes."""

    def __init__(self, frame, box):
        self.frame = frame
        self.box = box


class HangsOnHole(StateError):
    """A feed that hangs on a hole."""

    def __init__(self, position):
        self.position = position


class TakenName(StateError):
    """A name that something of another sort has."""

    def __init__(self, value):
        self.value = value


class WrongThing(StateError):
    """A name of a thing of a class that is not wanted."""

    def __init__(self, value):
        self.value = value


class Lost(StateError):
    """A note whose claim is none any more."""

    def __init__(self, name):
        self.name = name


class NothingToUndo(StateError):
    """No change that could be taken back."""


class NothingToRedo(StateError):
    """No change that could be done again."""


class CommandFailed(StateError):
    """A command, of several, that failed."""

    def __init__(self, position):
        self.position = position
