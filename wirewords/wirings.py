"""Wirings: gates with delays, and registers that stand on the way from a wire to a use."""

from wirewords.bits import KINDS, bit_of, is_bit, is_count, is_kind, is_list, is_name, is_word
from wirewords.checks import check_inputs, check_number, gate_on_ring, sequence_of
from wirewords.circuits import MOST_REGISTERS, Circuit
from wirewords.errors import InvalidInputs, InvalidOutputs, InvalidWord, TooMany, UnknownWire
from wirewords.refusals import BareRing, CannotGo, InvalidDelays, InvalidWay, UnknownGate

GREATEST_DELAY = 20
MOST_WIRING_INPUTS = 4
MOST_WIRING_GATES = 10
MOST_WIRING_OUTPUTS = 4
MOST_BITS = 24


def is_source(value, wires):
    """Whether any value is a tuple of one of some wires and a tuple of bits."""
    if not isinstance(value, tuple) or len(value) != 2:
        return False
    wire, bits = value
    if not isinstance(wire, str) or wire not in wires or not isinstance(bits, tuple):
        return False
    return all([is_bit(bit) for bit in bits])


def is_delayed(value, wires):
    """Whether any value is a tuple of a kind, a delay and as many sources as the kind has."""
    if not isinstance(value, tuple) or len(value) != 3:
        return False
    kind, delay, sources = value
    if not is_kind(kind) or not is_count(delay) or not 1 <= delay <= GREATEST_DELAY or not is_list(sources):
        return False
    return len(sources) == KINDS[kind] and all([is_source(source, wires) for source in sources])


def check_delays(gates, inputs):
    """Raise InvalidDelays unless these are gates with delays."""
    if not isinstance(gates, dict) or len(gates) == 0:
        raise InvalidDelays(None)
    if not all([is_name(name) and name not in inputs for name in gates]):
        raise InvalidDelays(None)
    wires = list(inputs) + list(gates)
    for name in sorted(gates):
        if not is_delayed(gates[name], wires):
            raise InvalidDelays(name)


def check_ends(outputs, wires):
    """Raise InvalidOutputs unless these are sources, one or more."""
    if not is_list(outputs) or len(outputs) == 0:
        raise InvalidOutputs(None)
    for at, source in enumerate(outputs):
        if not is_source(source, wires):
            raise InvalidOutputs(at)


def bare_wires(sources):
    """The wires of those of some sources that have no bits."""
    return [wire for wire, bits in sources if len(bits) == 0]


def check_no_bare_ring(gates):
    """Raise BareRing with the least gate that stands on a ring without bits."""
    gate = gate_on_ring({name: bare_wires(gates[name][2]) for name in gates})
    if gate is not None:
        raise BareRing(gate)


class Wiring:
    """Inputs, gates with delays, outputs, and bits on the ways between them; it never changes."""

    def __init__(self, inputs, gates, outputs):
        check_inputs(inputs)
        if len(inputs) == 0:
            raise InvalidInputs(None)
        check_delays(gates, inputs)
        check_ends(outputs, list(inputs) + list(gates))
        check_no_bare_ring(gates)
        check_number("inputs", inputs, MOST_WIRING_INPUTS)
        check_number("gates", gates, MOST_WIRING_GATES)
        check_number("outputs", outputs, MOST_WIRING_OUTPUTS)
        sources = [source for name in gates for source in gates[name][2]] + list(outputs)
        self._bits = sum([len(bits) for _, bits in sources])
        if self._bits > MOST_BITS:
            raise TooMany("bits", MOST_BITS)
        self._inputs = tuple(inputs)
        self._gates = {name: (gates[name][0], gates[name][1], tuple(gates[name][2])) for name in sorted(gates)}
        self._outputs = tuple(outputs)

    def inputs(self):
        """The inputs, in their sequence."""
        return list(self._inputs)

    def outputs(self):
        """The outputs, in their sequence."""
        return list(self._outputs)

    def gates(self):
        """The dict from the gates, sorted, to their kinds, delays and sources."""
        gates = {}
        for name in self._gates:
            kind, delay, sources = self._gates[name]
            gates[name] = (kind, delay, list(sources))
        return gates

    def sources(self, gate):
        """The sources of a gate, in their sequence."""
        check_gate(self, gate)
        return list(self._gates[gate][2])

    def uses(self, wire):
        """The sorted tuples (use, position) that have a wire as a source, the use "" for outputs."""
        if wire not in self and not (isinstance(wire, str) and wire in self._inputs):
            raise UnknownWire(wire)
        return sorted([use for use, (name, _) in all_uses(self) if name == wire])

    @property
    def bits(self):
        """How many bits there are."""
        return self._bits

    def __len__(self):
        return len(self._gates)

    def __contains__(self, value):
        return isinstance(value, str) and value in self._gates

    def __eq__(self, other):
        return (
            isinstance(other, Wiring)
            and self._inputs == other._inputs
            and self._gates == other._gates
            and self._outputs == other._outputs
        )

    def __repr__(self):
        return f"Wiring({self.inputs()!r}, {self.gates()!r}, {self.outputs()!r})"


def check_gate(wiring, gate):
    """Raise UnknownGate unless this is a gate of the wiring."""
    if gate not in wiring:
        raise UnknownGate(gate)


def all_uses(wiring):
    """The tuples ((use, position), source) of all uses, sorted by these."""
    gates = wiring.gates()
    uses = [(("", at), source) for at, source in enumerate(wiring.outputs())]
    for name in gates:
        uses.extend([((name, at), source) for at, source in enumerate(gates[name][2])])
    return uses


def bare_sequence(wiring):
    """The gates, each behind those that it hears at once."""
    gates = wiring.gates()
    return sequence_of({name: bare_wires(gates[name][2]) for name in gates})


def heard(source, bits, said):
    """What a use hears: the first of its bits, or what its wire says."""
    return bits[0] if bits else said[source[0]]


def answer_of(wiring, word):
    """What the outputs hear at each letter of a word."""
    if not is_word(word, len(wiring.inputs())):
        raise InvalidWord(word)
    gates, sequence, uses = wiring.gates(), bare_sequence(wiring), all_uses(wiring)
    held = {use: list(source[1]) for use, source in uses}
    told = []
    for letter in word:
        said = {name: bit for name, bit in zip(wiring.inputs(), letter)}
        for gate in sequence:
            kind, _, sources = gates[gate]
            said[gate] = bit_of(kind, [heard(source, held[(gate, at)], said) for at, source in enumerate(sources)])
        told.append(tuple([heard(source, held[("", at)], said) for at, source in enumerate(wiring.outputs())]))
        for use, (wire, bits) in uses:
            if bits:
                held[use] = held[use][1:] + [said[wire]]
    return told


def can_go(wiring, gate):
    """Whether each source of a gate has a bit."""
    return len(bare_wires(wiring.sources(gate))) == 0


def source_behind(source, taken, gate, bit):
    """A source when a gate has gone: its first bit goes if it is taken, a bit comes if it is of the gate."""
    wire, bits = source
    left = bits[1:] if taken else bits
    return wire, left + (bit,) if wire == gate else left


def gone(wiring, gate):
    """The wiring when a gate has gone."""
    if not can_go(wiring, gate):
        raise CannotGo(gate)
    gates = wiring.gates()
    made = bit_of(gates[gate][0], [bits[0] for _, bits in gates[gate][2]])
    moved = {}
    for name in gates:
        kind, delay, sources = gates[name]
        moved[name] = (kind, delay, [source_behind(source, name == gate, gate, made) for source in sources])
    outputs = [source_behind(source, False, gate, made) for source in wiring.outputs()]
    return Wiring(wiring.inputs(), moved, outputs)


def bit_names(wiring):
    """A name for the register of each bit, none of them that of a wire."""
    wires = wiring.inputs() + list(wiring.gates())
    names = [f"r{number}" for number in range(wiring.bits + len(wires))]
    return [name for name in names if name not in wires][:wiring.bits]


def circuit_of(wiring):
    """The circuit with a register for each bit."""
    if wiring.bits > MOST_REGISTERS:
        raise TooMany("registers", MOST_REGISTERS)
    names = bit_names(wiring)
    registers = []
    ends = {}
    for use, (wire, bits) in all_uses(wiring):
        own = names[len(registers):len(registers) + len(bits)]
        # Each register takes what the one behind it says, the last one what the wire says.
        line = own + [wire]
        ends[use] = line[0]
        registers.extend([(name, bit, source) for name, bit, source in zip(own, bits, line[1:])])
    gates = wiring.gates()
    rows = [
        (name, gates[name][0], [ends[(name, at)] for at in range(len(gates[name][2]))])
        for name in gates
    ]
    return Circuit(wiring.inputs(), rows, registers, [ends[("", at)] for at in range(len(wiring.outputs()))])


def bare_readers(wiring):
    """The dict from the wires to the gates that hear each at once, sorted."""
    gates = wiring.gates()
    wires = wiring.inputs() + list(gates)
    return {wire: [name for name in gates if wire in bare_wires(gates[name][2])] for wire in wires}


def delays_from(wiring, readers):
    """The dict from the wires to the greatest delay of a way without registers from each."""
    gates = wiring.gates()
    delays = {}
    for gate in bare_sequence(wiring)[::-1]:
        delays[gate] = gates[gate][1] + max([delays[name] for name in readers[gate]], default=0)
    for name in wiring.inputs():
        delays[name] = max([delays[reader] for reader in readers[name]], default=0)
    return delays


def beat_of(wiring):
    """The greatest delay of a way without registers."""
    return max(list(delays_from(wiring, bare_readers(wiring)).values()))


def slowest_way(wiring):
    """Of the ways without registers with the greatest delay the least tuple."""
    readers = bare_readers(wiring)
    delays = delays_from(wiring, readers)
    beat = max(list(delays.values()))
    way = []
    following = [wire for wire in sorted(delays) if delays[wire] == beat]
    while following:
        way.append(following[0])
        most = max([delays[name] for name in readers[way[-1]]], default=0)
        following = [name for name in readers[way[-1]] if delays[name] == most]
    return tuple(way)


def bits_between(wiring, wire, use):
    """How many bits each source of a use has that is of a wire, rising; the use is "" for outputs."""
    sources = wiring.outputs() if use == "" else wiring.sources(use)
    return sorted([len(bits) for name, bits in sources if name == wire])


def is_way(wiring, value):
    """Whether any value is a way of the wiring."""
    if not isinstance(value, tuple) or not all([isinstance(part, str) for part in value]):
        return False
    parts = value[:-1] if value[-1:] == ("",) else value
    if len(parts) == 0 or parts[0] not in wiring and parts[0] not in wiring.inputs():
        return False
    if not all([part in wiring for part in parts[1:]]):
        return False
    return all([len(bits_between(wiring, one, other)) > 0 for one, other in zip(value, value[1:])])


def check_way(wiring, way):
    """Raise InvalidWay unless this is a way of the wiring."""
    if not is_way(wiring, way):
        raise InvalidWay(way)


def registers_on(wiring, way):
    """How many registers a way has."""
    check_way(wiring, way)
    return sum([bits_between(wiring, one, other)[0] for one, other in zip(way, way[1:])])


def delay_of(wiring, way):
    """The sum of the delays of the gates of a way."""
    check_way(wiring, way)
    gates = wiring.gates()
    return sum([gates[part][1] for part in way if part in gates])
