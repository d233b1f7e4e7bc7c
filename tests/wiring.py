"""Wirings at random, and plain reference answers about them."""

import random

from tests.helping import WANTS, plain_bit
from wirewords.wirings import Wiring


def random_wiring(seed, inputs=None, gates=None, bits=None):
    """A wiring without bare rings: gates hear at once inputs and lesser gates alone."""
    chance = random.Random(seed)
    names = ["x%d" % k for k in range(1 + seed % 3 if inputs is None else inputs)]
    labels = ["g%d" % k for k in range(1 + seed % 5 if gates is None else gates)]
    most = 3 if bits is None else bits
    chance.shuffle(labels)
    table = {}
    for at, label in enumerate(labels):
        kind = chance.choice(sorted(WANTS))
        sources = []
        for _ in range(WANTS[kind]):
            wire = chance.choice(names + labels)
            least = 0 if wire in names + labels[:at] else 1
            many = max(least, chance.randrange(most + 1) - 1)
            sources.append((wire, tuple(chance.randrange(2) for _ in range(many))))
        table[label] = (kind, chance.randrange(1, 21), sources)
    outputs = []
    for _ in range(1 + seed % 3):
        outputs.append((chance.choice(names + labels), tuple(chance.randrange(2) for _ in range(chance.randrange(3)))))
    return Wiring(names, table, outputs)


def some_wirings(many, bits=24):
    seed = found = 0
    while found < many:
        seed += 1
        try:
            made = random_wiring(seed)
        except ArithmeticError:
            continue
        if made.bits <= bits:
            found += 1
            yield made


def naive_answer_of(wiring, word):
    """The answer, each bit on its way as an entry of a list."""
    gates = {name: (kind, [(wire, list(bits)) for wire, bits in sources])
             for name, (kind, _, sources) in wiring.gates().items()}
    ends = [(wire, list(bits)) for wire, bits in wiring.outputs()]
    told = []
    for letter in word:
        said = dict(zip(wiring.inputs(), letter))
        while len(said) < len(letter) + len(gates):
            for name, (kind, sources) in gates.items():
                heard = [bits[0] if bits else said.get(wire) for wire, bits in sources]
                if name not in said and None not in heard:
                    said[name] = plain_bit(kind, heard)
        told.append(tuple(bits[0] if bits else said[wire] for wire, bits in ends))
        for wire, bits in ends + [source for _, sources in gates.values() for source in sources]:
            if bits:
                bits.pop(0)
                bits.append(said[wire])
    return told


def links(wiring, one, other):
    """How many bits each source of a use has that is of a wire."""
    sources = wiring.outputs() if other == "" else wiring.gates()[other][2]
    return [len(bits) for wire, bits in sources if wire == one]


def bare_ways(wiring):
    """All ways without registers, with their delays."""
    gates = wiring.gates()
    found = [((wire,), gates[wire][1] if wire in gates else 0) for wire in wiring.inputs() + list(gates)]
    for way, delay in found:
        if way[-1] != "":
            found.extend((way + (name,), delay + gates[name][1]) for name in gates if 0 in links(wiring, way[-1], name))
            if 0 in links(wiring, way[-1], ""):
                found.append((way + ("",), delay))
    return found
