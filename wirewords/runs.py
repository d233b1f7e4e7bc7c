"""What circuits say and answer, letter by letter, perhaps with a wire stuck."""

from wirewords.bits import bit_of
from wirewords.checks import check_letter, check_state, check_stuck, check_wire, check_word


def plan_of(circuit):
    """The gates as they are to be worked out, with their kinds and sources."""
    return [(gate, circuit.kind(gate), circuit.sources(gate)) for gate in circuit.sequence()]


def said_by(circuit, plan, state, letter, stuck):
    """The dict from all wires to what they say, in no known sequence."""
    said = {}
    for name, bit in zip(circuit.inputs(), letter):
        said[name] = bit
    for (name, _, _), bit in zip(circuit.registers(), state):
        said[name] = bit
    held = None if stuck is None else stuck[0]
    if stuck is not None:
        said[held] = stuck[1]
    for gate, kind, sources in plan:
        if gate != held:
            said[gate] = bit_of(kind, [said[source] for source in sources])
    return said


def next_state(circuit, said):
    """The state behind a step in which the wires say this."""
    return tuple([said[source] for _, _, source in circuit.registers()])


def course(circuit, wires, word, state, stuck):
    """What some wires say at each letter, as tuples, and the states, one more than letters."""
    plan = plan_of(circuit)
    now = circuit.first() if state is None else state
    heard = []
    states = [now]
    for letter in word:
        said = said_by(circuit, plan, now, letter, stuck)
        heard.append(tuple([said[wire] for wire in wires]))
        now = next_state(circuit, said)
        states.append(now)
    return heard, states


def check_course(circuit, word, state, stuck):
    """Raise the errors of a word, of a state or None, and of a fault or None."""
    check_word(circuit, word)
    if state is not None:
        check_state(circuit, state)
    check_stuck(circuit, stuck)


def check_step(circuit, state, letter, stuck):
    """Raise the errors of a state, of a letter, and of a fault or None."""
    check_state(circuit, state)
    check_letter(circuit, letter)
    check_stuck(circuit, stuck)


def values(circuit, state, letter, stuck=None):
    """The dict from all wires to what they say in a state at a letter."""
    check_step(circuit, state, letter, stuck)
    said = said_by(circuit, plan_of(circuit), state, letter, stuck)
    return {wire: said[wire] for wire in circuit.wires()}


def step(circuit, state, letter, stuck=None):
    """What the outputs say in a state at a letter, and the next state."""
    check_step(circuit, state, letter, stuck)
    said = said_by(circuit, plan_of(circuit), state, letter, stuck)
    return tuple([said[wire] for wire in circuit.outputs()]), next_state(circuit, said)


def answer(circuit, word, state=None, stuck=None):
    """The answer to a word: for each letter what the outputs say."""
    check_course(circuit, word, state, stuck)
    heard, _ = course(circuit, circuit.outputs(), word, state, stuck)
    return heard


def states_along(circuit, word, state=None, stuck=None):
    """The states that a word comes through, one more than it has letters."""
    check_course(circuit, word, state, stuck)
    _, states = course(circuit, [], word, state, stuck)
    return states


def told(circuit, wire, word, state=None, stuck=None):
    """What a wire says at each letter of a word."""
    check_wire(circuit, wire)
    check_course(circuit, word, state, stuck)
    heard, _ = course(circuit, [wire], word, state, stuck)
    return [bits[0] for bits in heard]
