"""The strongest pattern behind a circuit, for a pattern ahead."""

from wirewords.bits import all_bits, is_letter
from wirewords.checks import check_number
from wirewords.maps import check_wires
from wirewords.patterns import is_place, least_pattern
from wirewords.states import check_limits
from wirewords.walks import Steps, is_closed, unlike_rows, walked

MOST_LOTS = 200


def lot_moves(circuit, ahead):
    """The moves of lots by what the outputs say at letters that lead on ahead, outputs rising."""
    steps = Steps(circuit)
    letters, ours = all_bits(ahead.width), ahead.goes()

    def moves(lot):
        found = {}
        for state, place in lot:
            for letter, (following, out) in zip(letters, steps.row(state)):
                if letter in ours[place]:
                    found.setdefault(out, {})[(following, ours[place][letter])] = True
        return [(out, tuple(sorted(found[out]))) for out in sorted(found)]

    return moves


def first_lot(circuit):
    """The lot of the first state and place 0 alone."""
    return ((circuit.first(), 0),)


def lots_met(circuit, ahead):
    """The dict from the lots that are come to, as they are met, to what outputs lead to from each."""
    moves = lot_moves(circuit, ahead)
    met = [first_lot(circuit)]
    seen = {met[0]: True}
    known = {}
    while len(known) < len(met):
        lot = met[len(known)]
        known[lot] = moves(lot)
        for _, there in known[lot]:
            if there not in seen:
                seen[there] = True
                met.append(there)
        check_number("lots", met, MOST_LOTS)
    return known


def pattern_of_lots(width, known):
    """The least pattern of the outputs that lead on from lots."""
    numbers = {lot: at for at, lot in enumerate(known)}
    return least_pattern(width, [{out: numbers[there] for out, there in known[lot]} for lot in known])


def check_ahead(circuit, ahead):
    """Raise the errors of a circuit behind a pattern."""
    check_wires(ahead, circuit.inputs())
    check_limits(circuit)


def strongest(circuit, ahead):
    """The least pattern of just the answers of the words that fit ahead."""
    check_ahead(circuit, ahead)
    return pattern_of_lots(len(circuit.outputs()), lots_met(circuit, ahead))


def strongest_table(circuit, ahead):
    """The strongest table, for the strongest pattern, of all tuples that are come to, sorted."""
    check_ahead(circuit, ahead)
    known = lots_met(circuit, ahead)
    goes = pattern_of_lots(len(circuit.outputs()), known).goes()

    def moves(here):
        lot, place = here
        return [(out, (there, goes[place][out])) for out, there in known[lot]]

    return sorted(walked((first_lot(circuit), 0), moves)[0])


def is_lot(circuit, ahead, value):
    """Whether any value is a sorted tuple of unlike tuples (state, place ahead)."""
    if not isinstance(value, tuple):
        return False
    width = len(circuit.first())
    for each in value:
        if not isinstance(each, tuple) or len(each) != 2:
            return False
        if not is_letter(each[0], width) or not is_place(ahead, each[1]):
            return False
    return all([one < other for one, other in zip(value, value[1:])])


def strongest_moves(circuit, ahead, pattern):
    """The moves of tuples (lot, place), out where an output is told, or leads on, but not both."""
    lots, ours, outs = lot_moves(circuit, ahead), pattern.goes(), all_bits(pattern.width)

    def moves(here):
        lot, place = here
        found = {said: there for said, there in lots(lot)}
        told = []
        for out in outs:
            if out in found and out in ours[place]:
                told.append((out, (found[out], ours[place][out])))
            elif out in found or out in ours[place]:
                told.append((out, None))
        return told

    return moves


def is_strongest_table(circuit, ahead, pattern, value):
    """Whether any value is a strongest table for a pattern."""
    check_wires(ahead, circuit.inputs())
    check_wires(pattern, circuit.outputs())
    check_limits(circuit)

    def is_row(row):
        if not isinstance(row, tuple) or len(row) != 2:
            return False
        return is_lot(circuit, ahead, row[0]) and is_place(pattern, row[1])

    return is_closed(unlike_rows(value, is_row), (first_lot(circuit), 0), strongest_moves(circuit, ahead, pattern))
