"""Circuits of gates and registers."""

from wirewords.checks import (
    check_gates,
    check_inputs,
    check_no_ring,
    check_number,
    check_outputs,
    check_registers,
    check_sources,
    check_wire,
    sequence_of,
)

MOST_INPUTS = 8
MOST_GATES = 200
MOST_REGISTERS = 8
MOST_OUTPUTS = 8


class Circuit:
    """Inputs, gates, registers and outputs; it never changes."""

    def __init__(self, inputs, gates=(), registers=(), outputs=()):
        check_inputs(inputs)
        check_gates(gates, inputs)
        check_registers(registers, list(inputs) + [gate[0] for gate in gates])
        sources = {name: () for name in inputs}
        for name, _, wires in gates:
            sources[name] = tuple(wires)
        for name, _, source in registers:
            sources[name] = (source,)
        check_sources([wire for name in sources for wire in sources[name]], sources)
        check_outputs(outputs, sources)
        between = {gate[0]: sources[gate[0]] for gate in gates}
        check_no_ring(between)
        check_number("inputs", inputs, MOST_INPUTS)
        check_number("gates", gates, MOST_GATES)
        check_number("registers", registers, MOST_REGISTERS)
        check_number("outputs", outputs, MOST_OUTPUTS)
        self._inputs = tuple(inputs)
        self._gates = tuple([(name, kind, tuple(wires)) for name, kind, wires in sorted(gates)])
        self._registers = tuple(sorted([(name, bit, source) for name, bit, source in registers]))
        self._outputs = tuple(outputs)
        self._sources = sources
        self._kinds = {name: "input" for name in inputs}
        for name, kind, _ in gates:
            self._kinds[name] = kind
        for row in registers:
            self._kinds[row[0]] = "register"
        self._sequence = sequence_of(between)

    def inputs(self):
        """The inputs, in their sequence."""
        return list(self._inputs)

    def gates(self):
        """The gates, sorted by name."""
        return [(name, kind, list(wires)) for name, kind, wires in self._gates]

    def registers(self):
        """The registers, sorted by name."""
        return list(self._registers)

    def outputs(self):
        """The outputs, in their sequence."""
        return list(self._outputs)

    def wires(self):
        """The names of all wires, sorted."""
        return sorted(self._kinds)

    def first(self):
        """The first state."""
        return tuple([bit for _, bit, _ in self._registers])

    def kind(self, wire):
        """The kind of a gate, or "input" or "register"."""
        check_wire(self, wire)
        return self._kinds[wire]

    def sources(self, wire):
        """The sources of a wire, in their sequence."""
        check_wire(self, wire)
        return list(self._sources[wire])

    def uses(self, wire):
        """The gates and registers of which a wire is a source, sorted."""
        check_wire(self, wire)
        return [name for name in self.wires() if wire in self._sources[name]]

    def cone(self, wire):
        """The wires on which a wire hangs, sorted."""
        check_wire(self, wire)
        met = {wire: True}
        todo = [wire]
        while todo:
            here = todo.pop()
            for source in self._sources[here]:
                if source not in met:
                    met[source] = True
                    todo.append(source)
        return sorted(met)

    def sequence(self):
        """The gates, each behind all gates among its sources."""
        return list(self._sequence)

    def __len__(self):
        return len(self._gates)

    def __contains__(self, value):
        return isinstance(value, str) and value in self._kinds

    def __eq__(self, other):
        return (
            isinstance(other, Circuit)
            and self._inputs == other._inputs
            and self._gates == other._gates
            and self._registers == other._registers
            and self._outputs == other._outputs
        )

    def __repr__(self):
        return f"Circuit({self.inputs()!r}, {self.gates()!r}, {self.registers()!r}, {self.outputs()!r})"
