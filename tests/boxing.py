"""Frames and boxes at random, and plain reference answers about them."""

import random

from tests.helping import WANTS, plain_bit, random_parts
from wirewords.boxes import Frame
from wirewords.circuits import Circuit

BOTH = Circuit(["x", "y"], [("g", "and", ["x", "y"])], [], ["g"])
EITHER = Circuit(["x", "y"], [("g", "or", ["x", "y"])], [], ["g"])
TELL = Circuit(["x"], [], [], ["x"])
TURN = Circuit(["x"], [("n", "not", ["x"])], [], ["n"])
NOTHING = Circuit([])
SHOWN = Frame(Circuit(["p", "q", "h"], [("o", "and", ["h", "p"])], [], ["o"]), ["p", "q"], ["h"])


def random_frame(seed, feeds=None, holes=None, registers=None, hangs=True):
    """A frame with inputs x0.., some of them holes; without hangs no feed hangs on a hole."""
    chance = random.Random(seed)
    many = 1 + seed % 2 if holes is None else holes
    states = seed % 3 if registers is None else registers
    while True:
        inputs, gates, rows, outputs = random_parts(chance.randrange(10 ** 6), many + chance.randrange(3), 1 + seed % 5, states, 1 + seed % 2)
        picked = chance.sample(inputs, many)
        circuit = Circuit(inputs, gates, rows, outputs)
        wires = [wire for wire in circuit.wires() if wire not in picked and (hangs or not set(picked) & set(circuit.cone(wire)))]
        wanted = seed % 3 if feeds is None else feeds
        if wires or not wanted:
            return Frame(circuit, [chance.choice(wires) for _ in range(wanted)], picked)


def random_box(seed, inputs, outputs, registers=0):
    while True:
        parts = random_parts(seed, inputs, seed % 5, registers, outputs)
        if len(parts[3]) == outputs:
            return Circuit(*parts)
        seed += 5001


def some_frames(many, boxes=1, **more):
    """Frames with boxes that fit."""
    for seed in range(many):
        frame = random_frame(seed, **more)
        registers = 0 if more.get("registers") == 0 else seed % 3
        chosen = [random_box(seed + 77 * at, len(frame.feeds()), len(frame.holes()), registers) for at in range(boxes)]
        yield (frame, *chosen)


def joint_parts(frame, box):
    """All that is read in the whole: the dict from wires to tuples (kind, sources), with a first bit for a register."""
    circuit = frame.circuit
    fed = dict(zip(box.inputs(), ["a" + wire for wire in frame.feeds()]))
    inner = {wire: fed.get(wire, "b" + wire) for wire in box.wires()}
    filled = dict(zip(frame.holes(), [inner[wire] for wire in box.outputs()]))
    outer = {wire: filled.get(wire, "a" + wire) for wire in circuit.wires()}
    parts = {}
    for names, whole in ((outer, circuit), (inner, box)):
        for name, kind, sources in whole.gates():
            parts[names[name]] = (kind, [names[wire] for wire in sources])
        for name, first, source in whole.registers():
            parts[names[name]] = ("register", first, names[source])
    inputs = ["a" + wire for wire in circuit.inputs() if wire not in frame.holes()]
    return inputs, parts, [outer[wire] for wire in circuit.outputs()], ["a" + wire for wire in frame.feeds()]


def has_ring(parts):
    """Whether gates go round."""
    placed = set()
    gates = {name: row[1] for name, row in parts.items() if row[0] in WANTS}
    while True:
        ready = [name for name in gates if name not in placed and all(wire in placed or wire not in gates for wire in gates[name])]
        if not ready:
            return len(placed) < len(gates)
        placed.update(ready)


def joint_answer(frame, box, word, wires):
    """What some wires of the whole say at each letter."""
    inputs, parts, _, _ = joint_parts(frame, box)
    state = {name: row[1] for name, row in parts.items() if row[0] == "register"}
    told = []
    for letter in word:
        said = {**state, **dict(zip(inputs, letter))}
        left = [name for name in parts if name not in state]
        while left:
            for name in list(left):
                kind, sources = parts[name]
                if all(wire in said for wire in sources):
                    said[name] = plain_bit(kind, [said[wire] for wire in sources])
                    left.remove(name)
        told.append(tuple(said[wire] for wire in wires))
        state = {name: said[parts[name][2]] for name in state}
    return told
