"""Tangles at random, and plain reference answers about them, for the tests of tangles and settling."""

import itertools
import random

from tests.helping import WANTS, letters_of, plain_bit
from wirewords.tangles import Tangle

HOLD = Tangle(["r", "s"], [("m", "or", ["r", "p"]), ("q", "not", ["m"]), ("n", "or", ["s", "q"]), ("p", "not", ["n"])])
LOOP = Tangle([], [("a", "or", ["a", "n"]), ("n", "not", ["a"])])
GATED = Tangle(["d", "e"], [("q", "pick", ["e", "d", "q"])])
TURNING = Tangle([], [("n", "not", ["n"])])
PAIR = Tangle([], [("a", "not", ["b"]), ("b", "not", ["a"])])


def random_tangle(seed, inputs, gates):
    chance = random.Random(seed)
    names = ["i%d" % k for k in range(inputs)]
    labels = ["g%d" % k for k in range(gates)]
    wires = names + labels * 2
    kinds = sorted(WANTS) + ["pick", "or", "and", "xor"] * 2
    rows = []
    for label in labels:
        kind = chance.choice(kinds)
        rows.append((label, kind, [chance.choice(wires) for _ in range(WANTS[kind])]))
    chance.shuffle(rows)
    return Tangle(names, rows)


def some_tangles(many, most=3):
    for seed in range(many):
        yield random_tangle(seed, seed % 3, 1 + seed % most)


def held_at(tangle):
    """All letters and standings."""
    standings = letters_of(len(tangle.names()))
    return list(itertools.product(letters_of(len(tangle.inputs())), standings))


def naive_turns(tangle, letter):
    """The dict from all standings to dicts from the wanting gates to what their turns lead to."""
    names = sorted(gate[0] for gate in tangle.gates())
    web = {}
    for standing in letters_of(len(names)):
        said = dict(zip(tangle.inputs() + names, letter + standing))
        web[standing] = {}
        for at, (name, kind, sources) in enumerate(sorted(tangle.gates())):
            if plain_bit(kind, [said[source] for source in sources]) != standing[at]:
                web[standing][name] = standing[:at] + (1 - standing[at],) + standing[at + 1:]
    return web


def naive_come_to(web, standing):
    met = {standing}
    while True:
        more = {there for here in met for there in web[here].values()} - met
        if not more:
            return met
        met |= more


def has_fair_endless_run(web, within):
    """Whether some set of standings, all its turns taken for ever, treats all gates fairly."""
    names = {gate for here in web for gate in web[here]}
    for size in range(2, len(within) + 1):
        for chosen in itertools.combinations(sorted(within), size):
            inner = {here: {gate: there for gate, there in web[here].items() if there in chosen} for here in chosen}
            if any(naive_come_to(inner, here) != set(chosen) for here in chosen):
                continue
            if all(any(gate in inner[here] or gate not in web[here] for here in chosen) for gate in names):
                return True
    return False


def naive_rest(web, standing):
    within = naive_come_to(web, standing)
    still = [here for here in within if not web[here]]
    if len(still) != 1 or has_fair_endless_run(web, within):
        return None
    return still[0]


def all_naive_rests(tangle):
    told = {}
    for letter in letters_of(len(tangle.inputs())):
        web = naive_turns(tangle, letter)
        for standing in web:
            told[letter, standing] = naive_rest(web, standing)
    return told


def runs_up_to(web, standing, length):
    """All runs of up to so many turns, shorter ones first, those of a length sorted, with where they lead."""
    layer = [([], standing)]
    for _ in range(length + 1):
        yield from layer
        layer = [(run + [gate], web[here][gate]) for run, here in layer for gate in sorted(web[here])]
