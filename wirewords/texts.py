"""Written forms of things and of words."""

from wirewords.bits import DIGITS, GREATEST_WIDTH, KINDS, is_kind, is_name, is_word
from wirewords.checks import GREATEST_SMALL_WIDTH
from wirewords.circuits import Circuit
from wirewords.errors import InvalidWord, LimitError, MissingError, WireError
from wirewords.machines import Machine
from wirewords.patterns import Pattern
from wirewords.refusals import InvalidText, InvalidThing
from wirewords.tangles import Tangle
from wirewords.things import kind_of
from wirewords.wirings import Wiring

# No class takes a number with more digits, so that it need not be told from others.
MOST_DIGITS = 9
GREAT = 1000000000


def written_bits(bits):
    """The digits of a tuple of bits."""
    return "".join([str(bit) for bit in bits]) if bits else "-"


def line_of(words):
    """A line of words."""
    return " ".join(words) + "\n"


def gate_words(gates):
    """The words of the lines of some gates."""
    return [["gate", name, kind] + sources for name, kind, sources in gates]


def circuit_words(circuit):
    """The words of the lines of a circuit."""
    registers = [["register", name, str(bit), source] for name, bit, source in circuit.registers()]
    rows = gate_words(circuit.gates()) + registers
    return [["circuit"], ["inputs"] + circuit.inputs()] + rows + [["outputs"] + circuit.outputs()]


def tangle_words(tangle):
    """The words of the lines of a tangle."""
    return [["tangle"], ["inputs"] + tangle.inputs()] + gate_words(tangle.gates())


def machine_words(machine):
    """The words of the lines of a machine."""
    rows = [
        ["state"] + [word for goal, out in row for word in (str(goal), written_bits(out))] for row in machine.rows()
    ]
    return [["machine", str(machine.width), str(machine.out_width)]] + rows


def source_words(sources):
    """The words of sources with bits."""
    return [word for wire, bits in sources for word in (wire, written_bits(bits))]


def wiring_words(wiring):
    """The words of the lines of a wiring."""
    gates = wiring.gates()
    rows = [["gate", name, gates[name][0], str(gates[name][1])] + source_words(gates[name][2]) for name in gates]
    ends = [["outputs"] + source_words(wiring.outputs())]
    return [["wiring"], ["inputs"] + wiring.inputs()] + rows + ends


def pattern_words(pattern):
    """The words of the lines of a pattern."""
    rows = []
    for leads in pattern.goes():
        rows.append(["place"] + [word for letter in leads for word in (written_bits(letter), str(leads[letter]))])
    return [["pattern", str(pattern.width)]] + rows


def written(thing):
    """The written form of a circuit, a tangle, a machine, a wiring or a pattern."""
    kind = kind_of(thing)
    if kind == "circuit":
        rows = circuit_words(thing)
    elif kind == "tangle":
        rows = tangle_words(thing)
    elif kind == "machine":
        rows = machine_words(thing)
    elif kind == "wiring":
        rows = wiring_words(thing)
    elif kind == "pattern":
        rows = pattern_words(thing)
    else:
        raise InvalidThing(thing)
    return "".join([line_of(words) for words in rows])


def is_number(word):
    """Whether a word is a number, without needless zeros."""
    if word == "" or not all([sign in DIGITS for sign in word]):
        return False
    return word == "0" or word[0] != "0"


def number_of_word(word):
    """What a word tells that is a number; of one with very many digits just that it is great."""
    return int(word) if len(word) <= MOST_DIGITS else GREAT


def are_bits(word):
    """Whether a word is the digits of a tuple of bits."""
    return word == "-" or word != "" and all([sign in ("0", "1") for sign in word])


def bits_of_word(word):
    """The tuple of bits that a word tells."""
    return () if word == "-" else tuple([int(sign) for sign in word])


def is_width(word):
    """Whether a word is a width of the classes."""
    return is_number(word) and number_of_word(word) <= GREATEST_SMALL_WIDTH


class Lines:
    """The lines of a text that are read one by one."""

    def __init__(self, text):
        parts = text.split("\n")
        self._rows = parts[:-1]
        # What stands behind the last line feed is no line.
        self._rest = parts[-1]
        self._at = 0

    def head(self):
        """The first word of the line that is read now, the empty string if it lacks."""
        return "" if self._at == len(self._rows) else self._rows[self._at].split(" ")[0]

    def words(self):
        """The words of the line that is read now."""
        if self._at == len(self._rows):
            raise InvalidText(self._at + 1)
        return self._rows[self._at].split(" ")

    def go_on(self, right):
        """Read the next line, if this one is right."""
        if not right:
            raise InvalidText(self._at + 1)
        self._at += 1

    def check_end(self):
        """Raise InvalidText unless all is read."""
        if self._at < len(self._rows) or self._rest != "":
            raise InvalidText(self._at + 1)


def names_in(lines, head):
    """The names in a line with a first word."""
    words = lines.words()
    lines.go_on(words[0] == head and all([is_name(word) for word in words[1:]]))
    return words[1:]


def is_behind(name, rows):
    """Whether a name stands behind that of the last of some rows."""
    return not rows or rows[-1][0] < name


def is_gate_line(words, rows):
    """Whether words are those of the line of a gate behind some others."""
    if len(words) < 3 or not is_name(words[1]) or not is_kind(words[2]) or not is_behind(words[1], rows):
        return False
    return len(words) == 3 + KINDS[words[2]] and all([is_name(word) for word in words[3:]])


def gates_in(lines):
    """The gates in lines."""
    rows = []
    while lines.head() == "gate":
        words = lines.words()
        lines.go_on(is_gate_line(words, rows))
        rows.append((words[1], words[2], words[3:]))
    return rows


def is_register_line(words, rows):
    """Whether words are those of the line of a register behind some others."""
    if len(words) != 4 or not is_name(words[1]) or not is_behind(words[1], rows):
        return False
    return words[2] in ("0", "1") and is_name(words[3])


def circuit_in(lines):
    """The parts of a circuit in lines."""
    inputs, gates = names_in(lines, "inputs"), gates_in(lines)
    rows = []
    while lines.head() == "register":
        words = lines.words()
        lines.go_on(is_register_line(words, rows))
        rows.append((words[1], int(words[2]), words[3]))
    return inputs, gates, rows, names_in(lines, "outputs")


def pairs_of(words):
    """The tuples of each two words that stand one behind the other; their number is even."""
    return [(words[at], words[at + 1]) for at in range(0, len(words), 2)]


def are_sources(words):
    """Whether words are names and bits, in turn."""
    return len(words) % 2 == 0 and all([is_name(wire) and are_bits(bits) for wire, bits in pairs_of(words)])


def sources_of_words(words):
    """The sources that names and bits tell."""
    return [(wire, bits_of_word(bits)) for wire, bits in pairs_of(words)]


def is_delayed_line(words, rows):
    """Whether words are those of the line of a gate with a delay behind some others."""
    if len(words) < 4 or not is_name(words[1]) or not is_kind(words[2]) or not is_behind(words[1], rows):
        return False
    return is_number(words[3]) and len(words) == 4 + 2 * KINDS[words[2]] and are_sources(words[4:])


def wiring_in(lines):
    """The parts of a wiring in lines."""
    inputs = names_in(lines, "inputs")
    rows = []
    while lines.head() == "gate":
        words = lines.words()
        lines.go_on(is_delayed_line(words, rows))
        rows.append((words[1], (words[2], number_of_word(words[3]), sources_of_words(words[4:]))))
    words = lines.words()
    lines.go_on(words[0] == "outputs" and are_sources(words[1:]))
    return inputs, {name: row for name, row in rows}, sources_of_words(words[1:])


def is_goal_line(words, width, out_width):
    """Whether words are those of the line of a state."""
    if words[0] != "state" or len(words) != 1 + 2 * (1 << width):
        return False
    pairs = pairs_of(words[1:])
    return all([is_number(goal) and are_bits(out) and len(bits_of_word(out)) == out_width for goal, out in pairs])


def machine_in(lines, width, out_width):
    """The parts of a machine in lines."""
    rows = []
    while not rows or lines.head() == "state":
        words = lines.words()
        lines.go_on(is_goal_line(words, width, out_width))
        rows.append([(number_of_word(goal), bits_of_word(out)) for goal, out in pairs_of(words[1:])])
    return width, out_width, rows


def is_lead_line(words, width):
    """Whether words are those of the line of a place."""
    if words[0] != "place" or len(words) % 2 == 0:
        return False
    pairs = pairs_of(words[1:])
    if not all([are_bits(bits) and len(bits_of_word(bits)) == width and is_number(goal) for bits, goal in pairs]):
        return False
    return all([one[0] < other[0] for one, other in zip(pairs, pairs[1:])])


def pattern_in(lines, width):
    """The parts of a pattern in lines."""
    rows = []
    while not rows or lines.head() == "place":
        words = lines.words()
        lines.go_on(is_lead_line(words, width))
        rows.append({bits_of_word(bits): number_of_word(goal) for bits, goal in pairs_of(words[1:])})
    return width, rows


def parts_in(lines):
    """The word for the class that the first line tells, and the parts in the further ones."""
    words = lines.words()
    widths = [word for word in words[1:] if is_width(word)]
    wanted = {"circuit": 0, "tangle": 0, "machine": 2, "wiring": 0, "pattern": 1}.get(words[0])
    lines.go_on(len(words) - 1 == wanted and len(widths) == wanted)
    if words[0] == "circuit":
        parts = circuit_in(lines)
    elif words[0] == "tangle":
        parts = names_in(lines, "inputs"), gates_in(lines)
    elif words[0] == "machine":
        parts = machine_in(lines, int(widths[0]), int(widths[1]))
    elif words[0] == "wiring":
        parts = wiring_in(lines)
    else:
        parts = pattern_in(lines, int(widths[0]))
    lines.check_end()
    return words[0], parts


def made_of(kind, parts):
    """The thing of some parts."""
    if kind == "circuit":
        return Circuit(*parts)
    if kind == "tangle":
        return Tangle(*parts)
    if kind == "machine":
        return Machine(*parts)
    return Wiring(*parts) if kind == "wiring" else Pattern(*parts)


def read(text):
    """What has just this written form."""
    if not isinstance(text, str):
        raise InvalidText(0)
    kind, parts = parts_in(Lines(text))
    try:
        return made_of(kind, parts)
    except (WireError, MissingError, LimitError):
        raise InvalidText(0) from None


def written_word(word):
    """The written form of a word."""
    if not any([is_word(word, width) for width in range(GREATEST_WIDTH + 1)]):
        raise InvalidWord(word)
    return " ".join([written_bits(letter) for letter in word])


def read_word(text):
    """The word of a written form."""
    if not isinstance(text, str):
        raise InvalidText(0)
    words = text.split(" ") if text else []
    if not all([are_bits(word) for word in words]):
        raise InvalidText(0)
    word = [bits_of_word(bits) for bits in words]
    if not any([is_word(word, width) for width in range(GREATEST_WIDTH + 1)]):
        raise InvalidText(0)
    return word
