"""Late circuits, what they keep further, and rings of two circuits that read one another."""

from wirewords.bits import all_bits, is_word
from wirewords.checks import check_small_width
from wirewords.circuits import Circuit
from wirewords.errors import NotFitting, NotLasting, NotLate, OtherWidth, TooMany
from wirewords.gates import gates_ahead
from wirewords.lasting import places_met
from wirewords.machines import Machine
from wirewords.made import check_lengths, rewritten, signed
from wirewords.maps import check_between, check_wires, is_kept_table, is_place_in_map, keeps, kept_table
from wirewords.patterns import check_fitting_width
from wirewords.states import check_limits, circuit_by_rows
from wirewords.walks import Steps, is_closed, unlike_rows, walked


def early_outputs(circuit):
    """The outputs that hang on an input without a register between, sorted."""
    inputs = circuit.inputs()
    found = []
    for wire in sorted(circuit.outputs()):
        heard = [source for gate in gates_ahead(circuit, [wire]) for source in circuit.sources(gate)]
        if any([name in inputs for name in [wire] + heard]):
            found.append(wire)
    return found


def is_late(circuit):
    """Whether no output hangs on an input but through a register."""
    return len(early_outputs(circuit)) == 0


def check_late(circuit):
    """Raise NotLate with the least output that hangs on an input without a register between."""
    found = early_outputs(circuit)
    if found:
        raise NotLate(found[0])


def check_further(circuit, ahead, behind):
    """Raise the errors of a late circuit between two patterns."""
    check_late(circuit)
    check_between(circuit, ahead, behind)


def further_moves(circuit, ahead, behind):
    """The moves of tuples (state, place ahead, place behind), out where what the state says leads out behind."""
    steps = Steps(circuit)
    letters, ours, theirs = all_bits(ahead.width), ahead.goes(), behind.goes()

    def moves(here):
        state, place, twin = here
        row = steps.row(state)
        # A late circuit says the same at all letters, so the first one tells it.
        goal = theirs[twin].get(row[0][1])
        if goal is None:
            return [(letters[0], None)]
        told = []
        for letter, (following, _) in zip(letters, row):
            if letter in ours[place]:
                told.append((letter, (following, ours[place][letter], goal)))
        return told

    return moves


def further_word(circuit, ahead, behind):
    """The least further word; None."""
    check_further(circuit, ahead, behind)
    return walked((circuit.first(), 0, 0), further_moves(circuit, ahead, behind))[1]


def keeps_further(circuit, ahead, behind):
    """Whether the answer of each word that fits ahead without its last letter fits behind."""
    return further_word(circuit, ahead, behind) is None


def further_table(circuit, ahead, behind):
    """The further table of all tuples that are come to, sorted; None."""
    check_further(circuit, ahead, behind)
    came, word = walked((circuit.first(), 0, 0), further_moves(circuit, ahead, behind))
    return sorted(came) if word is None else None


def is_further_table(circuit, ahead, behind, value):
    """Whether any value is a further table."""
    check_further(circuit, ahead, behind)
    rows = unlike_rows(value, lambda row: is_place_in_map(circuit, ahead, behind, row))
    return is_closed(rows, (circuit.first(), 0, 0), further_moves(circuit, ahead, behind))


def is_further_word(circuit, ahead, behind, value):
    """Whether any value is a further word."""
    check_further(circuit, ahead, behind)
    if not is_word(value, ahead.width) or len(value) == 0 or value[:-1] not in ahead:
        return False
    return Steps(circuit).answer(value) not in behind


def check_ring(late, other):
    """Raise NotLate, or OtherWidth unless each circuit has as many inputs as the other one has outputs."""
    check_late(late)
    if len(late.outputs()) != len(other.inputs()):
        raise OtherWidth(len(late.outputs()), len(other.inputs()))
    if len(other.outputs()) != len(late.inputs()):
        raise OtherWidth(len(other.outputs()), len(late.inputs()))


def ring(late, other):
    """A late circuit and another one, marked by a and b, each reading the other one's outputs."""
    check_ring(late, other)
    ours, theirs = signed(late, "a"), signed(other, "b")
    check_lengths(list(ours.values()) + list(theirs.values()))
    # No output of the late one is an input, so what the other one reads is known first.
    their_reads = dict(theirs)
    for name, wire in zip(other.inputs(), late.outputs()):
        their_reads[name] = ours[wire]
    our_reads = dict(ours)
    for name, wire in zip(late.inputs(), other.outputs()):
        our_reads[name] = their_reads[wire]
    gates, registers, outputs = rewritten(late, ours, our_reads)
    more_gates, more_registers, more_outputs = rewritten(other, theirs, their_reads)
    return Circuit([], gates + more_gates, registers + more_registers, outputs + more_outputs)


def check_promise(late, other, ahead, behind):
    """Raise the errors of a ring between two patterns."""
    check_ring(late, other)
    check_wires(ahead, late.inputs())
    check_wires(behind, late.outputs())
    check_limits(late)
    check_limits(other)


def promise(late, other, ahead, behind):
    """The further table of the late circuit and the kept table of the other one; None."""
    check_promise(late, other, ahead, behind)
    ours, theirs = further_table(late, ahead, behind), kept_table(other, behind, ahead)
    return None if ours is None or theirs is None else (ours, theirs)


def is_promise(late, other, ahead, behind, value):
    """Whether any value is a promise."""
    check_promise(late, other, ahead, behind)
    if not isinstance(value, tuple) or len(value) != 2:
        return False
    return is_further_table(late, ahead, behind, value[0]) and is_kept_table(other, behind, ahead, value[1])


def check_lasting(pattern):
    """Raise NotLasting with the least place come to from which nothing leads on."""
    goes = pattern.goes()
    for place in places_met(goes):
        if len(goes[place]) == 0:
            raise NotLasting(place)


def player(pattern, word, width):
    """A circuit that answers with a word's letters, and behind them always with the least that leads on."""
    check_lasting(pattern)
    check_fitting_width(word, pattern.width)
    check_small_width(width)
    if word not in pattern:
        raise NotFitting(word)
    goes = pattern.goes()
    told = list(word)
    places = []
    place = pattern.place_of(word)
    while place not in places:
        places.append(place)
        letter = sorted(goes[place])[0]
        told.append(letter)
        place = goes[place][letter]
    if len(told) > Machine.MOST_STATES:
        raise TooMany("states", Machine.MOST_STATES)
    goals = list(range(1, len(told))) + [len(word) + places.index(place)]
    rows = [[(goal, letter) for _ in range(1 << width)] for goal, letter in zip(goals, told)]
    return circuit_by_rows(width, pattern.width, rows)


def check_spoiler(circuit, ahead, behind):
    """Raise the errors of a late circuit between a lasting pattern and another one."""
    check_late(circuit)
    check_wires(ahead, circuit.inputs())
    check_wires(behind, circuit.outputs())
    check_lasting(ahead)
    check_limits(circuit)


def spoiler(circuit, ahead, behind):
    """A circuit that keeps (behind, ahead), in whose ring what a late one says does not fit behind; None."""
    check_spoiler(circuit, ahead, behind)
    word = further_word(circuit, ahead, behind)
    return None if word is None else player(ahead, word[:-1], behind.width)


def breaks_in_ring(late, other, behind):
    """Whether in the ring what a late circuit says ever leads out behind."""
    steps, replies, goes = Steps(late), Steps(other), behind.goes()
    here = (late.first(), other.first(), 0)
    met = {}
    while here not in met:
        met[here] = True
        state, twin, place = here
        said = steps.row(state)[0][1]
        if said not in goes[place]:
            return True
        following, reply = replies.step(twin, said)
        here = (steps.step(state, reply)[0], following, goes[place][said])
    return False


def is_spoiler(circuit, ahead, behind, value):
    """Whether any value is a spoiler."""
    check_spoiler(circuit, ahead, behind)
    if not isinstance(value, Circuit):
        return False
    if len(value.inputs()) != behind.width or len(value.outputs()) != ahead.width:
        return False
    try:
        check_limits(value)
    except TooMany:
        return False
    return keeps(value, behind, ahead) and breaks_in_ring(circuit, value, behind)
