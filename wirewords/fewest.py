"""The fewest bits with which a wiring reaches a beat, and the flows that show it."""

from wirewords.bits import is_count
from wirewords.items import arcs_of, least_sums, nodes_of
from wirewords.lags import check_beat, check_lags, is_item, item_told
from wirewords.refusals import InvalidFlow


def uses_less_sources(wiring):
    """The dict from the gates to how many uses each has, less its sources."""
    return {gate: len(wiring.uses(gate)) - len(wiring.sources(gate)) for gate in wiring.gates()}


def bits_by(wiring, lags):
    """How many bits a wiring has behind the moves of lags."""
    check_lags(wiring, lags)
    more = uses_less_sources(wiring)
    return wiring.bits - sum([lags[gate] * more[gate] for gate in more])


def residue(arcs, counts):
    """Where counts can rise along arcs, and, turned, where they can fall: arcs marked by (place, change)."""
    rising = [(start, end, number, (at, 1)) for at, (start, end, number, _) in enumerate(arcs)]
    falling = [(end, start, -number, (at, -1)) for at, (start, end, number, _) in enumerate(arcs) if counts[at] > 0]
    return rising + falling


def best_counts(wiring, beat):
    """The arcs for a beat, counts along them with the least loss, and the sums that show it; None."""
    check_beat(beat)
    nodes, arcs = nodes_of(wiring), arcs_of(wiring, beat)
    if least_sums(nodes, arcs)[0] is None:
        return None
    # Once along each source is a flow: as much comes from each gate as it has uses, to it as it has sources.
    counts = [1 if item[0] == "source" else 0 for _, _, _, item in arcs]
    sums, ring = least_sums(nodes, residue(arcs, counts))
    while ring is not None:
        # Without a falling count this would be a ring against the beat.
        many = min([counts[at] for _, _, _, (at, change) in ring if change < 0])
        for _, _, _, (at, change) in ring:
            counts[at] += change * many
        sums, ring = least_sums(nodes, residue(arcs, counts))
    return arcs, counts, sums


def fewest_bits(wiring, beat):
    """The fewest bits for a beat; None if no lags reach it."""
    best = best_counts(wiring, beat)
    if best is None:
        return None
    arcs, counts, _ = best
    return wiring.bits - sum([count * arc[2] for arc, count in zip(arcs, counts)])


def fewest_lags(wiring, beat):
    """Lags that reach a beat and leave the fewest bits; None."""
    best = best_counts(wiring, beat)
    return None if best is None else {gate: best[2][gate] for gate in wiring.gates()}


def flow(wiring, beat):
    """A flow that tells the fewest bits; None."""
    best = best_counts(wiring, beat)
    if best is None:
        return None
    counts = {arc[3]: count for arc, count in zip(best[0], best[1]) if count > 0}
    return {item: counts[item] for item in sorted(counts)}


def is_flow(wiring, beat, value):
    """Whether any value is a flow against a beat."""
    check_beat(beat)
    if not isinstance(value, dict) or not all([is_item(wiring, beat, item) for item in value]):
        return False
    if not all([is_count(value[item]) for item in value]):
        return False
    left = uses_less_sources(wiring)
    left[""] = 0
    for item in value:
        start, end, _ = item_told(wiring, beat, item)
        left[start] -= value[item]
        left[end] += value[item]
    return all([left[gate] == 0 for gate in wiring.gates()])


def loss(wiring, beat, counts):
    """The loss of a flow."""
    if not is_flow(wiring, beat, counts):
        raise InvalidFlow(counts)
    return sum([counts[item] * item_told(wiring, beat, item)[2] for item in counts])
