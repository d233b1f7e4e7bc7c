"""What several tests use: error checks, odd values, and circuits at random from fixed seeds."""

import random
import unittest

ODD = [None, True, False, -1, 2, 3, "", "x", "no", (), [], {}, (0,), [0], ((),), [[]], {"x": 1}, b"x", object(), len]


class Case(unittest.TestCase):
    def refuses(self, error, told, call, *args, **more):
        """The call raises just this error, with these attributes, in sequence."""
        with self.assertRaises(error) as caught:
            call(*args, **more)
        self.assertIs(type(caught.exception), error)
        names = list(vars(caught.exception))
        found = [getattr(caught.exception, name) for name in names]
        self.assertEqual(len(found), len(told))
        for one, other in zip(found, told):
            self.assertEqual(one, other)
            self.assertIs(type(one), type(other))
        return caught.exception

    def refuses_value(self, error, value, call, *args, **more):
        """The call raises this error with this very value."""
        with self.assertRaises(error) as caught:
            call(*args, **more)
        self.assertIs(type(caught.exception), error)
        self.assertIs(caught.exception.value, value)

    def unlike_lists(self, value):
        """No two lists or dicts within a value are the same object."""
        met = []
        todo = [value]
        while todo:
            now = todo.pop()
            if isinstance(now, (list, dict)):
                self.assertFalse(any(now is one for one in met), "a list that is told twice")
                met.append(now)
            if isinstance(now, (list, tuple)):
                todo.extend(now)
            if isinstance(now, dict):
                self.assertEqual(list(now), sorted(now))
                todo.extend(now.values())


WANTS = {"low": 0, "high": 0, "not": 1, "and": 2, "or": 2, "xor": 2, "pick": 3}


def random_parts(seed, inputs=3, gates=6, registers=2, outputs=2):
    """Parts of a circuit: gates read inputs, registers and earlier gates."""
    chance = random.Random(seed)
    names = ["x%d" % k for k in range(inputs)]
    states = ["q%d" % k for k in range(registers)]
    chance.shuffle(states)
    known = names + states
    rows = []
    labels = ["g%d" % k for k in range(gates)]
    chance.shuffle(labels)
    for label in labels:
        kind = chance.choice([kind for kind in WANTS if known or not WANTS[kind]])
        rows.append((label, kind, [chance.choice(known) for _ in range(WANTS[kind])]))
        known = known + [label]
    delays = [(state, chance.randrange(2), chance.choice(known)) for state in states]
    ends = [chance.choice(known) for _ in range(outputs)] if known else []
    chance.shuffle(rows)
    return names, rows, delays, ends


def plain_bit(kind, bits):
    """What a kind makes of bits, told without a table."""
    if kind in ("low", "high"):
        return int(kind == "high")
    if kind == "not":
        return 1 - bits[0]
    if kind == "and":
        return min(bits)
    if kind == "or":
        return max(bits)
    if kind == "xor":
        return int(bits[0] != bits[1])
    return bits[1] if bits[0] == 1 else bits[2]


def plain_says(parts, state, letter, stuck=None):
    """What all wires of a circuit's parts say, gate by gate as often as it takes."""
    inputs, gates, registers, _ = parts
    said = dict(zip(inputs, letter))
    said.update(zip(sorted(name for name, _, _ in registers), state))
    if stuck is not None:
        said[stuck[0]] = stuck[1]
    left = [gate for gate in gates if stuck is None or gate[0] != stuck[0]]
    while left:
        ready = [gate for gate in left if all(source in said for source in gate[2])]
        for name, kind, sources in ready:
            said[name] = plain_bit(kind, [said[source] for source in sources])
        left = [gate for gate in left if gate not in ready]
    return said


def plain_next(parts, said):
    return tuple(said[source] for _, _, source in sorted(parts[2]))


def letters_of(width):
    """All letters of a width, by counting."""
    return [tuple(int(sign) for sign in bin(k)[3:]) for k in range(2 ** width, 2 ** (width + 1))]


def naive_least(order, truth):
    """Rows and root of the least table, from a dict from all letters to bits, by the words of point [22]."""
    rows = []

    def place_of(ahead):
        says = [bit for letter, bit in truth.items() if letter[:len(ahead)] == ahead]
        if len(set(says)) == 1:
            return says[0]
        halves = [[bit for letter, bit in truth.items() if letter[:len(ahead) + 1] == ahead + (side,)] for side in (0, 1)]
        if halves[0] == halves[1]:
            return place_of(ahead + (0,))
        low, high = place_of(ahead + (0,)), place_of(ahead + (1,))
        row = (order[len(ahead)], low, high)
        if row not in rows:
            rows.append(row)
        return rows.index(row) + 2

    truth = dict(sorted(truth.items()))
    root = place_of(())
    return rows, root


def naive_says(order, rows, root, letter):
    place = root
    while place > 1:
        name, low, high = rows[place - 2]
        place = [low, high][letter[order.index(name)]]
    return place


def random_rows(seed, order, many):
    """Rows of a table, seldom least: some twice, some with one place on both sides, some not come to."""
    chance = random.Random(seed)
    rows, heights = [], [len(order)] * 2
    for level in sorted((chance.randrange(len(order)) for _ in range(many if order else 0)), reverse=True):
        fit = [place for place, height in enumerate(heights) if height > level]
        rows.append((order[level], chance.choice(fit), chance.choice(fit)))
        heights.append(level)
        if chance.random() < 0.2:
            rows.append(rows[-1])
            heights.append(level)
    return rows, chance.randrange(len(rows) + 2) if chance.random() < 0.3 else len(rows) + 1


# Each step joins a gate of two wires to what was made so far; behind all of them a table has 155 rows.
STEPS = [
    ("or", "or", 4, 12), ("xor", "and", 9, 14), ("and", "and", 2, 13), ("or", "xor", 6, 14), ("xor", "and", 4, 10),
    ("or", "xor", 3, 0), ("xor", "xor", 9, 3), ("and", "xor", 10, 12), ("xor", "xor", 8, 5),
]


def full_circuit():
    """A circuit with eight inputs and registers, its gates in sequence; full has 300 rows, the last one 301."""
    inputs, registers = ["i%d" % k for k in range(8)], ["r%d" % k for k in range(8)]
    used = sorted({wire for step in STEPS for wire in step[2:]} | {1, 15})
    names = dict(zip(used, (inputs + registers)[1:]))
    gates = [("s0", "low", [])]
    for k, (outer, inner, one, other) in enumerate(STEPS):
        gates.append(("p%d" % k, inner, [names[one], names[other]]))
        gates.append(("s%d" % (k + 1), outer, ["s%d" % k, "p%d" % k]))
    gates += [("p9", "and", [names[15], names[1]]), ("p10", "or", [names[2], names[5]])]
    gates += [("u", "and", ["s9", "p10"]), ("w", "and", ["p9", "p10"])]
    gates += [("full", "or", ["u", "w"]), ("t", "and", ["i0", "full"])]
    return inputs, gates, [(name, 0, "i0") for name in registers], []
