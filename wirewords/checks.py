"""Checks of the parts of circuits and tangles, and of what stands beside a circuit."""

from heapq import heappop, heappush

from wirewords.bits import KINDS, is_bit, is_count, is_kind, is_letter, is_list, is_name, is_word
from wirewords.errors import (
    GateRing,
    InvalidFault,
    InvalidGates,
    InvalidInputs,
    InvalidLetter,
    InvalidOrder,
    InvalidOutputs,
    InvalidRegisters,
    InvalidState,
    InvalidWidth,
    InvalidWord,
    TooMany,
    UnknownWire,
)

MOST_VARIABLES = 16
GREATEST_SMALL_WIDTH = 4


def check_inputs(inputs):
    """Raise InvalidInputs unless this is a list of unlike names."""
    if not is_list(inputs):
        raise InvalidInputs(None)
    met = {}
    for at, name in enumerate(inputs):
        if not is_name(name) or name in met:
            raise InvalidInputs(at)
        met[name] = True


def is_gate(value):
    """Whether any value is a tuple of a name, a kind, and as many names as it has sources."""
    if not isinstance(value, tuple) or len(value) != 3:
        return False
    name, kind, sources = value
    if not is_name(name) or not is_kind(kind) or not is_list(sources):
        return False
    return len(sources) == KINDS[kind] and all([is_name(source) for source in sources])


def check_gates(gates, inputs):
    """Raise InvalidGates unless these are gates with names that no input has."""
    if not is_list(gates):
        raise InvalidGates(None)
    met = {name: True for name in inputs}
    for at, gate in enumerate(gates):
        if not is_gate(gate) or gate[0] in met:
            raise InvalidGates(at)
        met[gate[0]] = True


def is_register(value):
    """Whether any value is a tuple of a name, a first bit and the name of a source."""
    if not isinstance(value, tuple) or len(value) != 3:
        return False
    name, first, source = value
    return is_name(name) and is_bit(first) and is_name(source)


def check_registers(registers, taken):
    """Raise InvalidRegisters unless these are registers with names that are not taken."""
    if not is_list(registers):
        raise InvalidRegisters(None)
    met = {name: True for name in taken}
    for at, row in enumerate(registers):
        if not is_register(row) or row[0] in met:
            raise InvalidRegisters(at)
        met[row[0]] = True


def check_sources(sources, wires):
    """Raise UnknownWire with the first source that is no wire."""
    for source in sources:
        if source not in wires:
            raise UnknownWire(source)


def check_outputs(outputs, wires):
    """Raise InvalidOutputs unless these are names of wires."""
    if not is_list(outputs):
        raise InvalidOutputs(None)
    for at, wire in enumerate(outputs):
        if not isinstance(wire, str) or wire not in wires:
            raise InvalidOutputs(at)


def is_order(value):
    """Whether any value is a list of at most sixteen unlike names."""
    if not is_list(value) or len(value) > MOST_VARIABLES or not all([is_name(name) for name in value]):
        return False
    return len(set(value)) == len(value)


def check_order(order):
    """Raise InvalidOrder unless this is an order."""
    if not is_order(order):
        raise InvalidOrder(order)


def check_order_of(order, names):
    """Raise InvalidOrder unless this is an order of just these variables."""
    if not is_order(order) or sorted(order) != sorted(names):
        raise InvalidOrder(order)


def check_small_width(width):
    """Raise InvalidWidth unless this is an integer from 0 to 4."""
    if not is_count(width) or width > GREATEST_SMALL_WIDTH:
        raise InvalidWidth(width)


def check_number(what, rows, limit):
    """Raise TooMany if there are more rows than a limit."""
    if len(rows) > limit:
        raise TooMany(what, limit)


def sequence_of(sources):
    """The gates of a dict to their sources, each behind its own; without those behind a ring."""
    waits = {}
    readers = {gate: [] for gate in sources}
    ready = []
    for gate in sources:
        ahead = sorted({source for source in sources[gate] if source in sources})
        waits[gate] = len(ahead)
        for source in ahead:
            readers[source].append(gate)
        if not ahead:
            heappush(ready, gate)
    told = []
    while ready:
        gate = heappop(ready)
        told.append(gate)
        for reader in readers[gate]:
            waits[reader] -= 1
            if waits[reader] == 0:
                heappush(ready, reader)
    return told


def leads_back(sources, gate):
    """Whether a gate hangs on itself through the gates of a dict."""
    met = {}
    todo = [gate]
    while todo:
        here = todo.pop()
        for source in sources[here]:
            if source == gate:
                return True
            if source in sources and source not in met:
                met[source] = True
                todo.append(source)
    return False


def gate_on_ring(sources):
    """The least gate of a dict to their sources that stands on a ring; None."""
    placed = {gate: True for gate in sequence_of(sources)}
    left = {gate: sources[gate] for gate in sorted(sources) if gate not in placed}
    for gate in left:
        if leads_back(left, gate):
            return gate
    return None


def check_no_ring(sources):
    """Raise GateRing with the least gate that stands on a ring; sources is a dict from gates."""
    gate = gate_on_ring(sources)
    if gate is not None:
        raise GateRing(gate)


def check_wire(circuit, wire):
    """Raise UnknownWire unless this is the name of a wire."""
    if wire not in circuit:
        raise UnknownWire(wire)


def check_state(circuit, state):
    """Raise InvalidState unless this is a state of the circuit."""
    if not is_letter(state, len(circuit.first())):
        raise InvalidState(state)


def check_letter(circuit, letter):
    """Raise InvalidLetter unless this is a letter for the circuit."""
    if not is_letter(letter, len(circuit.inputs())):
        raise InvalidLetter(letter)


def check_word(circuit, word):
    """Raise InvalidWord unless this is a list of letters for the circuit."""
    if not is_word(word, len(circuit.inputs())):
        raise InvalidWord(word)


def is_fault(circuit, value):
    """Whether any value is a tuple of a wire and a bit."""
    if not isinstance(value, tuple) or len(value) != 2:
        return False
    return value[0] in circuit and is_bit(value[1])


def check_stuck(circuit, stuck):
    """Raise InvalidFault unless this is a fault of the circuit, or None."""
    if stuck is not None and not is_fault(circuit, stuck):
        raise InvalidFault(stuck)
