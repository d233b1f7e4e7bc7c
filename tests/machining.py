"""Machines, circuits and patterns at random, and plain reference answers about them."""

import itertools
import random

from tests.helping import letters_of, plain_next, plain_says, random_parts
from wirewords.circuits import Circuit
from wirewords.machines import Machine
from wirewords.patterns import Pattern

FLIP = Circuit(["x"], [("n", "xor", ["x", "q"])], [("q", 0, "n")], ["n"])
WAIT = Circuit(["x"], [("n", "not", ["x"])], [("q", 0, "n")], ["q"])
NOTHING = Circuit([])
RARE = Pattern(1, [{(0,): 0, (1,): 1}, {(0,): 0}])
LATE = Machine.late(1)
WIDE = Machine(1, 1, [[(1, (0,)), (2, (0,))], [(1, (0,)), (2, (0,))], [(0, (1,)), (2, (1,))]])


def words_of(width, most):
    """All words of a width with at most so many letters, in the sequence of words."""
    for length in range(most + 1):
        for word in itertools.product(letters_of(width), repeat=length):
            yield list(word)


def random_machine(seed, width, out_width, states, spread=None):
    """A machine; with a spread its outputs are seldom unlike."""
    chance = random.Random(seed)
    outs = [letter for letter in letters_of(out_width)]
    chance.shuffle(outs)
    rows = []
    for _ in range(states):
        rows.append([(chance.randrange(states), chance.choice(outs[:spread])) for _ in letters_of(width)])
    return Machine(width, out_width, rows)


def some_machines(many, states=5):
    for seed in range(many):
        yield random_machine(seed, seed % 3, 1 + seed % 2, 1 + seed % states, 1 + seed % 2)


def copied(machine, seed):
    """A machine that is alike, with states that are alike, and some that are not come to."""
    chance = random.Random(seed)
    rows = machine.rows()
    first = list(range(len(rows)))
    of = first + [chance.choice(first) for _ in range(3)]
    twins = {state: [at for at, kind in enumerate(of) if kind == state] for state in first}
    told = []
    for kind in of:
        told.append([(chance.choice(twins[goal]), out) for goal, out in rows[kind]])
    return Machine(machine.width, machine.out_width, told)


def naive_run(machine, word, state=0):
    """The answer of a machine and the state behind a word."""
    rows, letters = machine.rows(), letters_of(machine.width)
    told = []
    for letter in word:
        state, out = rows[state][letters.index(letter)]
        told.append(out)
    return told, state


def reached(start, steps):
    """All that is come to by steps, sorted."""
    met = [start]
    for here in met:
        met.extend(there for there in dict.fromkeys(steps(here)) if there not in met)
    return sorted(met)


def naive_met(machine, state=0):
    """The states come to, as they are met."""
    met = [state]
    for here in met:
        met.extend(goal for goal in dict.fromkeys(goal for goal, _ in machine.rows()[here]) if goal not in met)
    return met


def some_circuits(many, inputs=3, outputs=3):
    """Circuits with their parts."""
    for seed in range(many):
        parts = random_parts(seed, seed % inputs, seed % 6, seed % 4, 1 + seed % outputs)
        yield parts, Circuit(*parts)


def naive_answer(parts, word, state=None, stuck=None):
    """The answer of a circuit's parts and the state behind a word."""
    now = tuple(first for _, first, _ in sorted(parts[2])) if state is None else state
    told = []
    for letter in word:
        said = plain_says(parts, now, letter, stuck)
        told.append(tuple(said[wire] for wire in parts[3]))
        now = plain_next(parts, said)
    return told, now


def random_pattern(seed, width, places, share=0.6):
    chance = random.Random(seed)
    goes = []
    for _ in range(places):
        leads = {letter: chance.randrange(places) for letter in letters_of(width) if chance.random() < share}
        keys = list(leads)
        chance.shuffle(keys)
        goes.append({letter: leads[letter] for letter in keys})
    return Pattern(width, goes)


def some_patterns(many, width=None, places=5):
    for seed in range(many):
        yield random_pattern(seed, seed % 3 if width is None else width, 1 + seed % places, (0.4, 0.6, 0.8)[seed % 3])


def naive_place(pattern, word):
    """Where a word leads; None if out."""
    goes, place = pattern.goes(), 0
    for letter in word:
        if place is not None:
            place = goes[place].get(letter)
    return place


def fits(pattern, word):
    return naive_place(pattern, word) is not None


def ring_of(width, length, odd=0):
    """A pattern that goes round, all letters leading on at place 0, elsewhere that of 0s alone."""
    letters = letters_of(width)
    goes = [{letters[0]: (at + 1) % length} for at in range(length)]
    goes[odd] = {letter: (odd + 1) % length for letter in letters}
    return Pattern(width, goes)


def counter(registers, inputs=1, outputs=1, limit=None):
    """A circuit that counts its steps, in registers q0 (the highest) on, and begins again at a limit."""
    names = ["q%d" % k for k in range(registers)]
    gates, carry = [("one", "high", [])], "one"
    for name in reversed(names):
        gates += [("t" + name, "xor", [name, carry]), ("c" + name, "and", [name, carry])]
        carry = "c" + name
    sources = ["t" + name for name in names]
    if limit is not None:
        last = format(limit - 1, "0%db" % registers)
        gates.append(("e0", "high", []))
        for k, name in enumerate(names):
            wire = name
            if last[k] == "0":
                gates.append(("n%d" % k, "not", [name]))
                wire = "n%d" % k
            gates.append(("e%d" % (k + 1), "and", ["e%d" % k, wire]))
        gates.append(("go", "not", ["e%d" % registers]))
        gates += [("k" + name, "and", ["go", source]) for name, source in zip(names, sources)]
        sources = ["k" + name for name in names]
    wires = ["x%d" % k for k in range(inputs)]
    return Circuit(wires, gates, [(name, 0, source) for name, source in zip(names, sources)], (names * 8)[:outputs])
