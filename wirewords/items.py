"""Items of wirings as arcs between gates, and the least sums along arcs.

An ARC is a tuple (from, to, number, mark). That of an item has the item for its mark, and tells that
lag(from) is at most lag(to) + number; the empty string stands for inputs and outputs.
"""

from wirewords.wirings import all_uses


def end_of(wiring, wire):
    """What stands for a wire in arcs: a gate for itself, the empty string for an input."""
    return wire if wire in wiring else ""


def links_of(wiring):
    """The tuples (gate, reader, bits) of all sources of gates that are gates."""
    links = []
    for (use, _), (wire, bits) in all_uses(wiring):
        if use != "" and wire in wiring:
            links.append((wire, use, len(bits)))
    return links


def best_ways(wiring):
    """The dict from pairs of gates to tuples (registers, delay below 0, way).

    Of the ways from the one to the other it is that with the fewest registers, of these the slowest one.
    """
    gates, links = wiring.gates(), links_of(wiring)
    known = {(gate, gate): (0, -gates[gate][1], (gate,)) for gate in gates}
    fresh = list(known)
    while fresh:
        met = {}
        for start, end in fresh:
            registers, early, way = known[(start, end)]
            for wire, reader, bits in links:
                if wire != end:
                    continue
                told = (registers + bits, early - gates[reader][1], way + (reader,))
                if (start, reader) not in known or told < known[(start, reader)]:
                    known[(start, reader)] = told
                    met[(start, reader)] = True
        fresh = list(met)
    return known


def bare_arcs(wiring):
    """The arcs of the items that are the same for all beats."""
    arcs = []
    for (use, at), (wire, bits) in all_uses(wiring):
        arcs.append((end_of(wiring, wire), use, len(bits), ("source", use, at)))
    return arcs + [(gate, "", 0, ("forth", gate)) for gate in wiring.gates()]


def arcs_by(wiring, ways, beat):
    """The arcs of a wiring, with such of its best ways as are too slow for a beat.

    Ways with more registers, or with an input or an output at an end, tell nothing that these do not.
    """
    arcs = bare_arcs(wiring)
    for start, end in sorted(ways):
        registers, early, way = ways[(start, end)]
        if -early > beat:
            arcs.append((start, end, registers - 1, ("way", way)))
    return arcs


def arcs_of(wiring, beat):
    """The arcs of a wiring for a beat."""
    return arcs_by(wiring, best_ways(wiring), beat)


def ring_behind(via, node, many):
    """The ring of arcs to which the chosen arcs lead from a node, which is met behind so many of them."""
    here = node
    for _ in range(many):
        here = via[here][1]
    ring = [via[here]]
    while ring[-1][1] != here:
        ring.append(via[ring[-1][1]])
    return ring


def least_sums(nodes, arcs):
    """The dict from nodes to the least sums along arcs from each, and None; or None, and a ring with a sum below 0."""
    sums = {node: 0 for node in nodes}
    via = {}
    risen = []
    for _ in range(len(sums) + 1):
        risen = []
        for arc in arcs:
            start, end, number = arc[:3]
            if sums[end] + number < sums[start]:
                sums[start] = sums[end] + number
                via[start] = arc
                risen.append(start)
        if not risen:
            return sums, None
    # Sums along simple ways come to rest sooner, so what was chosen goes round.
    return None, ring_behind(via, risen[-1], len(sums))


def nodes_of(wiring):
    """The ends of the arcs of a wiring: its gates and the empty string."""
    return [""] + list(wiring.gates())
