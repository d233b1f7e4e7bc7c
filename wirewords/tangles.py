"""Tangles: gates that may go round, with inputs that are held."""

from wirewords.bits import all_bits, bit_of, is_letter, is_list
from wirewords.checks import check_gates, check_inputs, check_number, check_sources
from wirewords.errors import (
    HasRegisters,
    InvalidGates,
    InvalidLetter,
    InvalidRun,
    InvalidStanding,
    UnknownWire,
)

MOST_INPUTS = 4
MOST_GATES = 6


class Tangle:
    """Inputs and gates that may go round; it never changes."""

    def __init__(self, inputs, gates):
        check_inputs(inputs)
        check_gates(gates, inputs)
        if len(gates) == 0:
            raise InvalidGates(None)
        wires = list(inputs) + [gate[0] for gate in gates]
        check_sources([source for gate in gates for source in gate[2]], wires)
        check_number("inputs", inputs, MOST_INPUTS)
        check_number("gates", gates, MOST_GATES)
        self._inputs = tuple(inputs)
        self._gates = tuple([(name, kind, tuple(sources)) for name, kind, sources in sorted(gates)])

    @staticmethod
    def of(circuit):
        """The inputs and gates of a circuit without registers."""
        registers = circuit.registers()
        if registers:
            raise HasRegisters(registers[0][0])
        return Tangle(circuit.inputs(), circuit.gates())

    def inputs(self):
        """The inputs, in their sequence."""
        return list(self._inputs)

    def names(self):
        """The names of the gates, sorted."""
        return [gate[0] for gate in self._gates]

    def gates(self):
        """The gates, sorted by name."""
        return [(name, kind, list(sources)) for name, kind, sources in self._gates]

    def standings(self):
        """All standings, sorted."""
        return all_bits(len(self._gates))

    def dues(self, letter, standing):
        """The due bits of the gates at a standing, sorted by name."""
        check_held(self, letter, standing)
        said = {name: bit for name, bit in zip(self.inputs() + self.names(), letter + standing)}
        return tuple([bit_of(kind, [said[source] for source in sources]) for _, kind, sources in self._gates])

    def wanting(self, letter, standing):
        """The gates that want to turn at a standing, sorted."""
        dues = self.dues(letter, standing)
        return [name for name, bit, due in zip(self.names(), standing, dues) if bit != due]

    def turned(self, standing, gate):
        """The standing with the other bit of a gate."""
        check_standing(self, standing)
        if not isinstance(gate, str) or gate not in self.names():
            raise UnknownWire(gate)
        return tuple([1 - bit if name == gate else bit for name, bit in zip(self.names(), standing)])

    def places(self, letter, standing, run):
        """The standings of a run, the first one too."""
        check_held(self, letter, standing)
        if not is_list(run):
            raise InvalidRun(None)
        told = [standing]
        for at, gate in enumerate(run):
            if not isinstance(gate, str) or gate not in self.wanting(letter, told[-1]):
                raise InvalidRun(at)
            told.append(self.turned(told[-1], gate))
        return told

    def __eq__(self, other):
        return isinstance(other, Tangle) and self._inputs == other._inputs and self._gates == other._gates

    def __repr__(self):
        return f"Tangle({self.inputs()!r}, {self.gates()!r})"


def check_held_letter(tangle, letter):
    """Raise InvalidLetter unless this is a letter for the inputs."""
    if not is_letter(letter, len(tangle.inputs())):
        raise InvalidLetter(letter)


def check_standing(tangle, standing):
    """Raise InvalidStanding unless this is a standing."""
    if not is_letter(standing, len(tangle.names())):
        raise InvalidStanding(standing)


def check_held(tangle, letter, standing):
    """Raise the errors of a letter and of a standing."""
    check_held_letter(tangle, letter)
    check_standing(tangle, standing)


def look(tangle, letter):
    """What the look tells at first and behind each round: tuples with a bit or None for each gate."""
    check_held_letter(tangle, letter)
    known = {name: bit for name, bit in zip(tangle.inputs(), letter)}
    for name in tangle.names():
        known[name] = None
    told = [tuple([known[name] for name in tangle.names()])]
    while True:
        known.update(round_of(tangle, known))
        now = tuple([known[name] for name in tangle.names()])
        if now == told[-1]:
            return told
        told.append(now)


def round_of(tangle, known):
    """The dict from the gates that are told, by what is known so far, to their bits."""
    found = {}
    for name, kind, sources in tangle.gates():
        bits = bits_made(kind, sources, known)
        if len(bits) == 1:
            found[name] = bits[0]
    return found


def bits_made(kind, sources, known):
    """The sorted list of the bits that a kind makes, whatever bits the unknown sources have."""
    untold = sorted(set([source for source in sources if known[source] is None]))
    made = []
    for bits in all_bits(len(untold)):
        # A gate that is a source twice has one bit at both.
        guess = {name: bit for name, bit in zip(untold, bits)}
        made.append(bit_of(kind, [guess.get(source, known[source]) for source in sources]))
    return sorted(set(made))
