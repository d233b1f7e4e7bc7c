"""Boxes that are put into the holes of frames, and boxes that answer alike within a pattern."""

from wirewords.bits import all_bits, is_letter, is_list
from wirewords.checks import check_number, gate_on_ring
from wirewords.circuits import Circuit
from wirewords.errors import OtherWidths
from wirewords.made import check_lengths, rewritten, signed
from wirewords.maps import check_wires
from wirewords.patterns import is_place
from wirewords.refusals import DoesNotFit, InvalidFeeds, InvalidHoles
from wirewords.walks import Steps, is_closed, unlike_rows, walked, word_to

MOST_TUPLES = 2000


class Frame:
    """A circuit with feeds, which a box in it reads, and holes, its inputs that read the box; it never changes."""

    def __init__(self, circuit, feeds, holes):
        check_feeds(circuit, feeds)
        check_holes(circuit, feeds, holes)
        self._circuit = circuit
        self._feeds = tuple(feeds)
        self._holes = tuple(holes)

    @staticmethod
    def bare(box):
        """The frame of nothing but feeds, which are its inputs, and holes, which are its outputs."""
        feeds = [f"f{at}" for at in range(len(box.inputs()))]
        holes = [f"h{at}" for at in range(len(box.outputs()))]
        return Frame(Circuit(feeds + holes, [], [], holes), feeds, holes)

    @property
    def circuit(self):
        """The circuit with the hole."""
        return self._circuit

    def feeds(self):
        """The wires that a box reads, in their sequence."""
        return list(self._feeds)

    def holes(self):
        """The inputs that read a box, in their sequence."""
        return list(self._holes)

    def __eq__(self, other):
        return (
            isinstance(other, Frame)
            and self._circuit == other._circuit
            and self._feeds == other._feeds
            and self._holes == other._holes
        )

    def __repr__(self):
        return f"Frame({self._circuit!r}, {self.feeds()!r}, {self.holes()!r})"


def check_feeds(circuit, feeds):
    """Raise InvalidFeeds unless these are wires."""
    if not is_list(feeds):
        raise InvalidFeeds(None)
    for at, wire in enumerate(feeds):
        if wire not in circuit:
            raise InvalidFeeds(at)


def check_holes(circuit, feeds, holes):
    """Raise InvalidHoles unless these are unlike inputs that are no feeds."""
    if not is_list(holes):
        raise InvalidHoles(None)
    taken = {wire: True for wire in feeds}
    for at, wire in enumerate(holes):
        if wire not in circuit or circuit.kind(wire) != "input" or wire in taken:
            raise InvalidHoles(at)
        taken[wire] = True


def fits(frame, box):
    """Whether a box has as many inputs as there are feeds, and as many outputs as there are holes."""
    return len(box.inputs()) == len(frame.feeds()) and len(box.outputs()) == len(frame.holes())


def check_fits(frame, box):
    """Raise DoesNotFit unless a box fits."""
    if not fits(frame, box):
        raise DoesNotFit(frame, box)


class Whole:
    """The parts of a frame with a box put in, whatever names and numbers come."""

    def __init__(self, frame, box):
        inner, holes = frame.circuit, frame.holes()
        ours, theirs = signed(inner, "a"), signed(box, "b")
        self._fed = [ours[wire] for wire in frame.feeds()]
        # No feed is a hole, so what the box reads is known first.
        their_reads = dict(theirs)
        for name, wire in zip(box.inputs(), self._fed):
            their_reads[name] = wire
        our_reads = dict(ours)
        for name, wire in zip(holes, box.outputs()):
            our_reads[name] = their_reads[wire]
        gates, registers, self._ends = rewritten(inner, ours, our_reads)
        more_gates, more_registers, _ = rewritten(box, theirs, their_reads)
        self._read = [ours[wire] for wire in inner.inputs() if wire not in holes]
        self._gates = gates + more_gates
        self._registers = registers + more_registers

    def gate_sources(self):
        """The dict from the gates to their sources."""
        return {name: list(sources) for name, _, sources in self._gates}

    def built(self, outputs):
        """The circuit of these parts, with some of its wires as outputs."""
        check_lengths(self._read + [row[0] for row in self._gates + self._registers])
        return Circuit(self._read, self._gates, self._registers, outputs)

    def with_ends(self):
        """The circuit with the frame's outputs."""
        return self.built(self._ends)

    def with_feeds(self):
        """The circuit with what the feeds say as outputs."""
        return self.built(self._fed)


def put_in(frame, box):
    """The frame with a box put in."""
    check_fits(frame, box)
    return Whole(frame, box).with_ends()


def feeding(frame, box):
    """The frame with a box put in, what the feeds say as outputs."""
    check_fits(frame, box)
    return Whole(frame, box).with_feeds()


def stands(frame, box):
    """Whether no ring of gates comes if a box is put in."""
    check_fits(frame, box)
    return gate_on_ring(Whole(frame, box).gate_sources()) is None


def check_within(one, other, pattern):
    """Raise the errors of two boxes and of a pattern of the letters of their inputs."""
    if len(one.inputs()) != len(other.inputs()) or len(one.outputs()) != len(other.outputs()):
        raise OtherWidths(one, other)
    # A pattern is no wider than four, so with this there are not too many inputs either.
    check_wires(pattern, one.inputs())


def within_steps(one, other, pattern):
    """The steps of tuples (state, state, place) by the letters that lead on.

    A function to lists of tuples (letter, goal, whether both say the same outputs).
    """
    letters, goes, ours, theirs = all_bits(pattern.width), pattern.goes(), Steps(one), Steps(other)

    def steps(here):
        state, twin, place = here
        return [
            (letter, (goal, following, goes[place][letter]), out == said)
            for letter, (goal, out), (following, said) in zip(letters, ours.row(state), theirs.row(twin))
            if letter in goes[place]
        ]

    return steps


def tuples_met(one, other, pattern):
    """What is come to by words that fit, and the least of these that parts the boxes, or None."""
    check_within(one, other, pattern)
    steps = within_steps(one, other, pattern)

    def moves(here):
        return [(letter, goal) for letter, goal, _ in steps(here)]

    came, _ = walked((one.first(), other.first(), 0), moves, MOST_TUPLES)
    check_number("tuples", came, MOST_TUPLES)
    for here in came:
        for letter, _, alike in steps(here):
            if not alike:
                return came, word_to(came, here) + [letter]
    return came, None


def alike_within(one, other, pattern):
    """Whether two boxes answer alike to all words that fit a pattern."""
    return tuples_met(one, other, pattern)[1] is None


def relation_within(one, other, pattern):
    """The relation within a pattern of all tuples that are come to, sorted; None."""
    came, word = tuples_met(one, other, pattern)
    return sorted(came) if word is None else None


def parting_within(one, other, pattern):
    """The least word that fits a pattern and parts two boxes; None."""
    return tuples_met(one, other, pattern)[1]


def is_relation_within(one, other, pattern, value):
    """Whether any value is a relation of two boxes within a pattern."""
    check_within(one, other, pattern)
    steps, widths = within_steps(one, other, pattern), [len(one.first()), len(other.first())]

    def is_row(row):
        if not isinstance(row, tuple) or len(row) != 3:
            return False
        return is_letter(row[0], widths[0]) and is_letter(row[1], widths[1]) and is_place(pattern, row[2])

    def moves(here):
        return [(letter, goal if alike else None) for letter, goal, alike in steps(here)]

    return is_closed(unlike_rows(value, is_row), (one.first(), other.first(), 0), moves)
