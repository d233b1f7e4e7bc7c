"""Circuits that are made of circuits."""

from wirewords.bits import KINDS, LONGEST_NAME, SMALL, is_bit, is_kind, is_list, is_name
from wirewords.checks import check_wire
from wirewords.circuits import Circuit
from wirewords.errors import (
    InvalidBit,
    InvalidKind,
    InvalidName,
    InvalidNames,
    InvalidSources,
    OtherWidth,
    TooLong,
    UnknownWire,
)


def rewritten(circuit, names, reads):
    """Gates, registers and outputs with other names, and other names of what they read."""
    gates = [(names[gate], kind, [reads[wire] for wire in sources]) for gate, kind, sources in circuit.gates()]
    registers = [(names[name], first, reads[source]) for name, first, source in circuit.registers()]
    return gates, registers, [reads[wire] for wire in circuit.outputs()]


def signed(circuit, sign):
    """The dict from the wires to their marked names."""
    return {wire: sign + wire for wire in circuit.wires()}


def check_lengths(names):
    """Raise TooLong with the least name of more than twelve signs."""
    wrong = sorted([name for name in names if len(name) > LONGEST_NAME])
    if wrong:
        raise TooLong(wrong[0])


def check_kind_of(circuit, name, kind):
    """Raise UnknownWire unless this is the name of a wire of a kind."""
    if name not in circuit or circuit.kind(name) != kind:
        raise UnknownWire(name)


def marked(circuit, sign):
    """The circuit with a small letter ahead of all names."""
    if not isinstance(sign, str) or len(sign) != 1 or sign not in SMALL:
        raise InvalidName(sign)
    names = signed(circuit, sign)
    check_lengths(list(names.values()))
    gates, registers, outputs = rewritten(circuit, names, names)
    return Circuit([names[wire] for wire in circuit.inputs()], gates, registers, outputs)


def beside(one, other):
    """Both circuits, marked by a and b, as one."""
    ours, theirs = signed(one, "a"), signed(other, "b")
    check_lengths(list(ours.values()) + list(theirs.values()))
    gates, registers, outputs = rewritten(one, ours, ours)
    more_gates, more_registers, more_outputs = rewritten(other, theirs, theirs)
    inputs = [ours[wire] for wire in one.inputs()] + [theirs[wire] for wire in other.inputs()]
    return Circuit(inputs, gates + more_gates, registers + more_registers, outputs + more_outputs)


def behind(one, other):
    """The other circuit, marked by b, reading the outputs of the one, marked by a."""
    if len(one.outputs()) != len(other.inputs()):
        raise OtherWidth(len(one.outputs()), len(other.inputs()))
    ours, theirs = signed(one, "a"), signed(other, "b")
    check_lengths(list(ours.values()) + list(theirs.values()))
    gates, registers, outputs = rewritten(one, ours, ours)
    reads = dict(theirs)
    for name, wire in zip(other.inputs(), outputs):
        reads[name] = wire
    more_gates, more_registers, more_outputs = rewritten(other, theirs, reads)
    inputs = [ours[wire] for wire in one.inputs()]
    return Circuit(inputs, gates + more_gates, registers + more_registers, more_outputs)


def joined(circuit, name, wire):
    """The circuit without an input, another wire in its place."""
    check_kind_of(circuit, name, "input")
    check_wire(circuit, wire)
    if wire == name:
        raise UnknownWire(wire)
    names = {each: each for each in circuit.wires()}
    gates, registers, outputs = rewritten(circuit, names, {**names, name: wire})
    return Circuit([each for each in circuit.inputs() if each != name], gates, registers, outputs)


def are_new_names(circuit, names):
    """Whether any value is a dict from wires to names, by which no two wires get one name."""
    if not isinstance(names, dict):
        return False
    if not all([wire in circuit and is_name(names[wire]) for wire in names]):
        return False
    return len(set([names.get(wire, wire) for wire in circuit.wires()])) == len(circuit.wires())


def renamed(circuit, names):
    """The circuit with other names for some wires."""
    if not are_new_names(circuit, names):
        raise InvalidNames(names)
    whole = {wire: names.get(wire, wire) for wire in circuit.wires()}
    gates, registers, outputs = rewritten(circuit, whole, whole)
    return Circuit([whole[wire] for wire in circuit.inputs()], gates, registers, outputs)


def with_gate(circuit, name, kind, sources):
    """The circuit with a gate exchanged."""
    if name not in circuit or circuit.kind(name) not in KINDS:
        raise UnknownWire(name)
    if not is_kind(kind):
        raise InvalidKind(kind)
    if not is_list(sources) or len(sources) != KINDS[kind] or not all([wire in circuit for wire in sources]):
        raise InvalidSources(sources)
    gates = [gate for gate in circuit.gates() if gate[0] != name] + [(name, kind, list(sources))]
    return Circuit(circuit.inputs(), gates, circuit.registers(), circuit.outputs())


def with_first(circuit, name, bit):
    """The circuit with another first bit of a register."""
    check_kind_of(circuit, name, "register")
    if not is_bit(bit):
        raise InvalidBit(bit)
    rows = [(each, bit if each == name else first, source) for each, first, source in circuit.registers()]
    return Circuit(circuit.inputs(), circuit.gates(), rows, circuit.outputs())


def with_outputs(circuit, outputs):
    """The circuit with other outputs."""
    return Circuit(circuit.inputs(), circuit.gates(), circuit.registers(), outputs)


def trimmed(circuit):
    """The circuit without the gates and registers on which no output hangs."""
    needed = {wire: True for end in circuit.outputs() for wire in circuit.cone(end)}
    gates = [gate for gate in circuit.gates() if gate[0] in needed]
    registers = [row for row in circuit.registers() if row[0] in needed]
    return Circuit(circuit.inputs(), gates, registers, circuit.outputs())
