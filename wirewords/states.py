"""Machines of circuits, circuits of machines, and machines made of two."""

from wirewords.checks import check_number, check_stuck
from wirewords.circuits import Circuit
from wirewords.errors import OtherWidths, TooMany
from wirewords.machines import Machine
from wirewords.walks import Steps, walked

MOST_WIRES = 4
MOST_MADE_STATES = 16
MOST_MADE_WIRES = 2


def check_limits(circuit, stuck=None):
    """Raise TooMany if the circuit has too many wires, or comes to too many states, for a machine."""
    check_number("inputs", circuit.inputs(), MOST_WIRES)
    check_number("outputs", circuit.outputs(), MOST_WIRES)
    check_number("states", Steps(circuit, stuck).states(Machine.MOST_STATES), Machine.MOST_STATES)


def states_of(circuit, stuck=None):
    """The states that a circuit comes to from its first one, as they are met."""
    check_stuck(circuit, stuck)
    check_limits(circuit, stuck)
    return Steps(circuit, stuck).states(Machine.MOST_STATES)


def machine_of(circuit, stuck=None):
    """The machine of a circuit, perhaps with a wire stuck."""
    states = states_of(circuit, stuck)
    numbers = {state: at for at, state in enumerate(states)}
    steps = Steps(circuit, stuck)
    rows = [[(numbers[goal], out) for goal, out in steps.row(state)] for state in states]
    return Machine(len(circuit.inputs()), len(circuit.outputs()), rows)


class Gatework:
    """Gates that are made one by one, of what is to be said at all letters of some variables."""

    def __init__(self, variables):
        self._variables = list(variables)
        self._wires = {}
        self._gates = []

    def gates(self):
        """The gates that were made."""
        return list(self._gates)

    def added(self, kind, sources):
        """The name of a new gate."""
        name = f"g{len(self._gates)}"
        self._gates.append((name, kind, sources))
        return name

    def wire(self, bits):
        """A wire that says these bits at the letters of the last variables, as many as it takes, sorted."""
        half = len(bits) // 2
        if half > 0 and bits[:half] == bits[half:]:
            return self.wire(bits[:half])
        if bits not in self._wires:
            self._wires[bits] = self.made(bits, half)
        return self._wires[bits]

    def made(self, bits, half):
        """A wire for bits whose halves are unlike, or for a single one."""
        if half == 0:
            return self.added("high" if bits[0] == 1 else "low", [])
        name = self._variables[-(half.bit_length())]
        lows, highs = (0,) * half, (1,) * half
        if bits == lows + highs:
            return name
        if bits == highs + lows:
            return self.added("not", [name])
        return self.added("pick", [name, self.wire(bits[half:]), self.wire(bits[:half])])


def circuit_by_rows(width, out_width, rows):
    """A circuit that comes to no more states than there are rows, and answers as a machine with these."""
    needed = (len(rows) - 1).bit_length()
    inputs = [f"x{at}" for at in range(width)]
    states = [f"q{at}" for at in range(needed)]
    # Numbers that no state has are never come to, so any row does for them.
    whole = rows + [rows[0] for _ in range((1 << needed) - len(rows))]
    goals = [goal for row in whole for goal, _ in row]
    outs = [out for row in whole for _, out in row]
    work = Gatework(states + inputs)
    sources = [work.wire(tuple([goal >> (needed - 1 - at) & 1 for goal in goals])) for at in range(needed)]
    outputs = [work.wire(tuple([out[at] for out in outs])) for at in range(out_width)]
    registers = [(name, 0, source) for name, source in zip(states, sources)]
    return Circuit(inputs, work.gates(), registers, outputs)


def circuit_of(machine):
    """A circuit whose machine is alike to a machine, and has no more states."""
    check_number("states", machine.rows(), MOST_MADE_STATES)
    if machine.width > MOST_MADE_WIRES:
        raise TooMany("inputs", MOST_MADE_WIRES)
    if machine.out_width > MOST_MADE_WIRES:
        raise TooMany("outputs", MOST_MADE_WIRES)
    return circuit_by_rows(machine.width, machine.out_width, machine.trimmed().rows())


def machine_by_pairs(width, out_width, row_of):
    """The trimmed machine of pairs of states, from a function to the rows of pairs."""
    came = walked((0, 0), lambda pair: [((), row[0]) for row in row_of(pair)], Machine.MOST_STATES)[0]
    check_number("states", came, Machine.MOST_STATES)
    numbers = {pair: at for at, pair in enumerate(came)}
    return Machine(width, out_width, [[(numbers[goal], out) for goal, out in row_of(pair)] for pair in came])


def paired(one, other):
    """The machine that tells what both machines tell of the same letters."""
    if one.width != other.width:
        raise OtherWidths(one, other)
    if one.out_width + other.out_width > MOST_WIRES:
        raise TooMany("outputs", MOST_WIRES)
    ours, theirs = one.rows(), other.rows()

    def row_of(pair):
        return [((goal, twin), out + said) for (goal, out), (twin, said) in zip(ours[pair[0]], theirs[pair[1]])]

    return machine_by_pairs(one.width, one.out_width + other.out_width, row_of)


def chained(one, other):
    """The machine that tells what the other machine tells of the outputs of the one."""
    if one.out_width != other.width:
        raise OtherWidths(one, other)
    ours = one.rows()

    def row_of(pair):
        told = [(goal, other.step(pair[1], out)) for goal, out in ours[pair[0]]]
        return [((goal, twin), said) for goal, (twin, said) in told]

    return machine_by_pairs(one.width, other.out_width, row_of)
