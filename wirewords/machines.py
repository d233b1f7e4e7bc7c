"""Machines: numbered states, from each of which each letter leads on, with an output."""

from wirewords.bits import all_bits, is_count, is_letter, is_list, is_word, number_of
from wirewords.checks import check_number, check_small_width
from wirewords.errors import InvalidLetter, InvalidRows, InvalidState, InvalidWord, TooMany
from wirewords.walks import numbered

MOST_LATE = 2


def is_goal(value, states, out_width):
    """Whether any value is a tuple of the number of a state and an output."""
    if not isinstance(value, tuple) or len(value) != 2:
        return False
    return is_count(value[0]) and value[0] < states and is_letter(value[1], out_width)


def check_machine_rows(rows, width, out_width):
    """Raise InvalidRows unless these are the rows of a machine."""
    if not is_list(rows) or len(rows) == 0:
        raise InvalidRows(None)
    for at, row in enumerate(rows):
        if not is_list(row) or len(row) != 1 << width:
            raise InvalidRows(at)
        if not all([is_goal(goal, len(rows), out_width) for goal in row]):
            raise InvalidRows(at)


class Machine:
    """Widths, and for each state where each letter leads and what is told there; it never changes."""

    MOST_STATES = 64

    def __init__(self, width, out_width, rows):
        check_small_width(width)
        check_small_width(out_width)
        check_machine_rows(rows, width, out_width)
        check_number("states", rows, Machine.MOST_STATES)
        self._width = width
        self._out_width = out_width
        self._rows = tuple([tuple(row) for row in rows])

    @staticmethod
    def late(width):
        """The machine that tells at each step the letter of the step ahead, at first one of 0s."""
        check_small_width(width)
        if width > MOST_LATE:
            raise TooMany("inputs", MOST_LATE)
        told = all_bits(width)
        return Machine(width, width, [[(goal, said) for goal in range(len(told))] for said in told])

    @property
    def width(self):
        """The width of the letters that are read."""
        return self._width

    @property
    def out_width(self):
        """The width of the outputs."""
        return self._out_width

    def letters(self):
        """The letters that are read, sorted."""
        return all_bits(self._width)

    def rows(self):
        """For each state the list of the tuples (next state, output), for each letter, sorted."""
        return [list(row) for row in self._rows]

    def step(self, state, letter):
        """The tuple (next state, output) of a letter in a state."""
        check_machine_state(self, state)
        if not is_letter(letter, self._width):
            raise InvalidLetter(letter)
        return self._rows[state][number_of(letter)]

    def course(self, word):
        """The tuples (next state, output) of the letters of a word, from state 0 on."""
        if not is_word(word, self._width):
            raise InvalidWord(word)
        state = 0
        told = []
        for letter in word:
            told.append(self._rows[state][number_of(letter)])
            state = told[-1][0]
        return told

    def answer(self, word):
        """The outputs that are told at the letters of a word."""
        return [out for _, out in self.course(word)]

    def behind(self, word):
        """The state behind a word."""
        told = self.course(word)
        return told[-1][0] if told else 0

    def come_to(self):
        """The states that are come to, sorted."""
        met = {0: True}
        todo = [0]
        while todo:
            row = self._rows[todo.pop()]
            for goal, _ in row:
                if goal not in met:
                    met[goal] = True
                    todo.append(goal)
        return sorted(met)

    def begun(self, state):
        """The machine that begins at a state, trimmed."""
        check_machine_state(self, state)
        alone = list(range(len(self._rows)))
        return Machine(self._width, self._out_width, numbered(self._rows, alone, state))

    def trimmed(self):
        """The machine with just the states that are come to, numbered as they are met."""
        return self.begun(0)

    def __len__(self):
        return len(self._rows)

    def __eq__(self, other):
        return (
            isinstance(other, Machine)
            and self._width == other._width
            and self._out_width == other._out_width
            and self._rows == other._rows
        )

    def __repr__(self):
        return f"Machine({self._width!r}, {self._out_width!r}, {self.rows()!r})"


def check_machine_state(machine, state):
    """Raise InvalidState unless this is the number of a state."""
    if not is_count(state) or state >= len(machine):
        raise InvalidState(state)
