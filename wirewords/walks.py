"""Steps of circuits at all letters at once, what words come to, and classes of states.

ROWS have, for each of some numbered states, a list with, for each letter, sorted, a tuple (goal, output);
the goal is None where the letter leads out. MOVES are a function from whatever words come to, to the list
of the tuples (letter, goal) from there, letters rising, likewise None where a letter leads out.
Operators rest on next_classes and numbered, so these change nothing that they get.
"""

from wirewords.bits import all_bits, is_list, number_of


def mask_of(kind, masks, full):
    """What a kind makes of its sources at all letters at once, a bit of a number for each letter."""
    if kind in ("low", "high"):
        return full if kind == "high" else 0
    if kind == "not":
        return full ^ masks[0]
    if kind == "and":
        return masks[0] & masks[1]
    if kind == "or":
        return masks[0] | masks[1]
    if kind == "xor":
        return masks[0] ^ masks[1]
    return masks[0] & masks[1] | (full ^ masks[0]) & masks[2]


def masks_of_inputs(names, letters):
    """The dict from the inputs to what they say at all letters at once."""
    masks = {}
    for at, name in enumerate(names):
        masks[name] = sum([letter[at] << number for number, letter in enumerate(letters)])
    return masks


class Steps:
    """A circuit, perhaps with a wire stuck, at all letters at once; what was worked out is kept."""

    def __init__(self, circuit, stuck=None):
        letters = all_bits(len(circuit.inputs()))
        self._first = circuit.first()
        self._stuck = stuck
        self._plan = [(gate, circuit.kind(gate), circuit.sources(gate)) for gate in circuit.sequence()]
        self._full = (1 << len(letters)) - 1
        self._masks = masks_of_inputs(circuit.inputs(), letters)
        self._registers = circuit.registers()
        self._outputs = circuit.outputs()
        self._known = {}

    def masks_in(self, state):
        """The dict from all wires to what they say in a state at all letters at once."""
        said = {name: self._masks[name] for name in self._masks}
        for (name, _, _), bit in zip(self._registers, state):
            said[name] = self._full * bit
        held = None if self._stuck is None else self._stuck[0]
        if held is not None:
            said[held] = self._full * self._stuck[1]
        for gate, kind, sources in self._plan:
            if gate != held:
                said[gate] = mask_of(kind, [said[source] for source in sources], self._full)
        return said

    def row(self, state):
        """For each letter, sorted, a tuple of the next state and of what the outputs say."""
        if state not in self._known:
            said = self.masks_in(state)
            goals = [said[source] for _, _, source in self._registers]
            outs = [said[wire] for wire in self._outputs]
            self._known[state] = [
                (tuple([mask >> at & 1 for mask in goals]), tuple([mask >> at & 1 for mask in outs]))
                for at in range(self._full.bit_length())
            ]
        return self._known[state]

    def step(self, state, letter):
        """The next state behind a letter, and what the outputs say at it."""
        return self.row(state)[number_of(letter)]

    def answer(self, word):
        """What the outputs say at each letter of a word, from the first state on."""
        now = self._first
        told = []
        for letter in word:
            now, out = self.step(now, letter)
            told.append(out)
        return told

    def states(self, most):
        """The states come to, as they are met; if there are more than a limit, one more than this."""
        return list(walked(self._first, lambda state: [((), step[0]) for step in self.row(state)], most)[0])


def walked(start, moves, most=None):
    """What is come to, as it is met, and the least word that leads out, or None.

    The first one is a dict to tuples (from where, letter), None for the start. The walk ends where a
    letter leads out, and when more is come to than a limit.
    """
    came = {start: None}
    met = [start]
    at = 0
    while at < len(met):
        here = met[at]
        for letter, there in moves(here):
            if there is None:
                return came, word_to(came, here) + [letter]
            if there not in came:
                came[there] = (here, letter)
                met.append(there)
                if most is not None and len(met) > most:
                    return came, None
        at += 1
    return came, None


def word_to(came, here):
    """The least word that leads to something that is come to."""
    word = []
    now = here
    while came[now] is not None:
        now, letter = came[now]
        word.append(letter)
    return word[::-1]


def unlike_rows(value, is_row):
    """The dict from the elements of any value that is a list of unlike ones that are right; None."""
    if not is_list(value):
        return None
    rows = {}
    for each in value:
        if not is_row(each) or each in rows:
            return None
        rows[each] = True
    return rows


def is_closed(rows, start, moves):
    """Whether there are rows that have a start, and with each of them all to which letters lead."""
    if rows is None or start not in rows:
        return False
    for here in rows:
        for _, there in moves(here):
            if there is None or there not in rows:
                return False
    return True


def next_classes(rows, now):
    """For each state the number of its class in the round behind one; numbers as states come."""
    numbers = {}
    told = []
    for own, row in zip(now, rows):
        key = (own, tuple([(None if goal is None else now[goal], out) for goal, out in row]))
        told.append(numbers.setdefault(key, len(numbers)))
    return told


def rounds_of(rows):
    """The rounds of states, each a list of the numbers of their classes; the last two are equal."""
    rounds = [[0 for _ in rows]]
    while len(rounds) < 2 or rounds[-1] != rounds[-2]:
        rounds.append(next_classes(rows, rounds[-1]))
    return rounds


def numbered(rows, classes, start):
    """Rows of the classes that are come to from that of a state, numbered as they are met."""
    firsts = {}
    for at, number in enumerate(classes):
        firsts.setdefault(number, at)
    met = [classes[start]]
    numbers = {classes[start]: 0}
    told = []
    while len(told) < len(met):
        here = firsts[met[len(told)]]
        row = []
        for goal, out in rows[here]:
            number = None if goal is None else classes[goal]
            if number is not None and number not in numbers:
                numbers[number] = len(met)
                met.append(number)
            row.append((numbers.get(number), out))
        told.append(row)
    return told


def least_rows(rows):
    """Rows of the classes of states that are alike, come to from state 0, numbered as they are met."""
    return numbered(rows, rounds_of(rows)[-1], 0)
