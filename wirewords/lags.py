"""Lags: gates of wirings that go, the beats that are reached so, and rings that stand against them."""

from wirewords.bits import bit_of, is_count, is_integer, is_list
from wirewords.checks import sequence_of
from wirewords.items import arcs_by, arcs_of, best_ways, end_of, least_sums, nodes_of
from wirewords.refusals import InvalidBeat, InvalidItem, InvalidLags
from wirewords.wirings import Wiring, all_uses, beat_of, delay_of, is_way, registers_on

LEAST_LAG = -40


def check_beat(beat):
    """Raise InvalidBeat unless this is a count."""
    if not is_count(beat):
        raise InvalidBeat(beat)


def lag_of(lags, wire):
    """The lag of a gate; 0 for inputs and outputs."""
    return lags.get(wire, 0)


def bits_left(lags, use, source):
    """How many bits a source of a use has behind the moves of lags."""
    wire, bits = source
    return len(bits) + lag_of(lags, use) - lag_of(lags, wire)


def is_lags(wiring, value):
    """Whether any value is lags of a wiring."""
    if not isinstance(value, dict) or len(value) != len(wiring):
        return False
    for gate in wiring.gates():
        if gate not in value or not is_integer(value[gate]) or not LEAST_LAG <= value[gate] <= 0:
            return False
    return all([bits_left(value, use, source) >= 0 for (use, _), source in all_uses(wiring)])


def check_lags(wiring, lags):
    """Raise InvalidLags unless these are lags of the wiring."""
    if not is_lags(wiring, lags):
        raise InvalidLags(lags)


def is_item(wiring, beat, value):
    """Whether any value is an item of a wiring for a beat."""
    check_beat(beat)
    if not isinstance(value, tuple) or len(value) < 2 or not isinstance(value[0], str):
        return False
    if value[0] == "source" and len(value) == 3:
        _, use, at = value
        if use != "" and use not in wiring:
            return False
        return is_count(at) and at < len(wiring.outputs() if use == "" else wiring.sources(use))
    if len(value) != 2:
        return False
    if value[0] == "forth":
        return value[1] in wiring
    return value[0] == "way" and is_way(wiring, value[1]) and delay_of(wiring, value[1]) > beat


def item_told(wiring, beat, item):
    """What an item tells: that the lag of the first is at most that of the second, and the number."""
    if not is_item(wiring, beat, item):
        raise InvalidItem(item)
    if item[0] == "forth":
        return item[1], "", 0
    if item[0] == "way":
        way = item[1]
        return end_of(wiring, way[0]), end_of(wiring, way[-1]), registers_on(wiring, way) - 1
    _, use, at = item
    wire, bits = wiring.outputs()[at] if use == "" else wiring.sources(use)[at]
    return end_of(wiring, wire), use, len(bits)


def sequence(wiring, lags):
    """The gates as they go by lags, always the least one that can and still has to."""
    check_lags(wiring, lags)
    uses = all_uses(wiring)
    held = {use: len(bits) for use, (_, bits) in uses}
    own = {gate: [(gate, at) for at in range(len(wiring.sources(gate)))] for gate in wiring.gates()}
    readers = {gate: wiring.uses(gate) for gate in own}
    left = {gate: -lags[gate] for gate in own}
    told = []
    while len(told) < -sum(list(lags.values())):
        gate = [name for name in own if left[name] > 0 and all([held[use] > 0 for use in own[name]])][0]
        told.append(gate)
        left[gate] -= 1
        for use in own[gate]:
            held[use] -= 1
        for use in readers[gate]:
            held[use] += 1
    return told


def moved(wiring, lags):
    """The wiring behind the moves of lags, however many bits there are on the way."""
    gates = wiring.gates()
    held = {use: list(bits) for use, (_, bits) in all_uses(wiring)}
    for gate in sequence(wiring, lags):
        own = [(gate, at) for at in range(len(gates[gate][2]))]
        made = bit_of(gates[gate][0], [held[use][0] for use in own])
        for use in own:
            held[use] = held[use][1:]
        for use in wiring.uses(gate):
            held[use] = held[use] + [made]
    told = {}
    for name in gates:
        kind, delay, sources = gates[name]
        told[name] = (kind, delay, [(wire, tuple(held[(name, at)])) for at, (wire, _) in enumerate(sources)])
    outputs = [(wire, tuple(held[("", at)])) for at, (wire, _) in enumerate(wiring.outputs())]
    return Wiring(wiring.inputs(), told, outputs)


def beat_by(wiring, lags):
    """The beat of a wiring behind the moves of lags, however many bits it would have."""
    gates = wiring.gates()
    heard = {}
    for name in gates:
        bare = [source for source in gates[name][2] if bits_left(lags, name, source) == 0]
        heard[name] = [wire for wire, _ in bare if wire in gates]
    delays = {}
    for name in sequence_of(heard):
        delays[name] = gates[name][1] + max([delays[wire] for wire in heard[name]], default=0)
    return max(list(delays.values()))


def reaches(wiring, beat, lags):
    """Whether the wiring behind the moves of lags has at most a beat."""
    check_beat(beat)
    check_lags(wiring, lags)
    return beat_by(wiring, lags) <= beat


def greatest_lags(wiring, beat):
    """The greatest lags that reach a beat; None."""
    check_beat(beat)
    sums, _ = least_sums(nodes_of(wiring), arcs_of(wiring, beat))
    return None if sums is None else {gate: sums[gate] for gate in wiring.gates()}


def ring(wiring, beat):
    """A ring against a beat; None if some lags reach it."""
    check_beat(beat)
    _, arcs = least_sums(nodes_of(wiring), arcs_of(wiring, beat))
    return None if arcs is None else [item for _, _, _, item in arcs]


def is_ring(wiring, beat, value):
    """Whether any value is a ring against a beat."""
    check_beat(beat)
    if not is_list(value) or len(value) == 0 or not all([is_item(wiring, beat, item) for item in value]):
        return False
    told = [item_told(wiring, beat, item) for item in value]
    if not all([told[at - 1][1] == start for at, (start, _, _) in enumerate(told)]):
        return False
    return sum([number for _, _, number in told]) < 0


def least_beat(wiring):
    """The least beat that some lags reach."""
    ways, nodes = best_ways(wiring), nodes_of(wiring)
    # No lags reach 0, and those of 0 alone reach the beat that the wiring has.
    low, high = 0, beat_of(wiring)
    while high - low > 1:
        middle = (low + high) // 2
        if least_sums(nodes, arcs_by(wiring, ways, middle))[0] is None:
            low = middle
        else:
            high = middle
    return high
