"""Point [98], wirewords/claims.py; of point [4] that of each claim and its contrary just one is true."""

import copy
import random

from tests.boxing import BOTH, EITHER, SHOWN, TELL, TURN, some_frames
from tests.helping import ODD, Case, full_circuit, letters_of
from tests.machining import (
    FLIP, LATE, RARE, WAIT, WIDE, counter, naive_answer, random_machine, random_pattern, some_circuits, some_machines, some_patterns,
)
from tests.papers import some_variants
from tests.test_hands import ECHO, ONES, SAME, some_games
from tests.test_resets import cerny
from tests.test_trees import MANY, ONE_MORE
from tests.test_wirings import SLOW
from tests.wiring import some_wirings
from wirewords import alike, boxes, faults, feeds, fewest, gates, hands, lags, lasting, maps, menus, patterns, resets, rings, settling, trees
from wirewords.boxes import Frame
from wirewords.circuits import Circuit
from wirewords.claims import contrary, is_claim, is_paper, is_true, paper_of, things_at
from wirewords.errors import TooMany
from wirewords.hands import Game
from wirewords.machines import Machine
from wirewords.patterns import Pattern
from wirewords.refusals import InvalidClaim
from wirewords.runs import answer
from wirewords.tables import Table
from wirewords.tangles import Tangle
from wirewords.wirings import Wiring

LINES = {
    "equal": ("parted", (0,), 3), "settles": ("swings", (0,), 3), "alike": ("apart", (0, 1), 2), "needs": ("fewer", (0,), 2),
    "within": ("beyond", (0, 1), 2), "lasts": ("ends", (0,), 1), "keeps": ("breaks", (0, 1, 2), 3), "onward": ("falls", (0, 1, 2), 3),
    "hidden": ("shown", (0,), 3), "covered": ("bare", (0,), 4), "reached": ("barred", (0,), 2), "resets": ("splits", (0,), 1),
    "found": ("stuck", (0,), 2), "enough": ("lacking", (0, 1), 3), "agrees": ("differs", (0, 1, 2), 3), "planned": ("spoiled", (0,), 1),
}
PAIRS = {**{one: other for one, (other, _, _) in LINES.items()}, **{other: one for one, (other, _, _) in LINES.items()}}
LATCH = Tangle(["d", "e"], [("q", "pick", ["e", "d", "q"])])
RUN = Tangle(["s"], [("n", "not", ["n"])])
TWO = Tangle([], [("a", "not", ["b"]), ("b", "not", ["a"])])
LOOP = Machine(1, 1, [[(0, (0,)), (1, (0,))], [(1, (0,)), (0, (1,))]])
END = Pattern(1, [{(0,): 1}, {}])
MENU = [[(0, 0)], [(0, 1)], [(1, 0)], [(1, 1)]]
BIG = Circuit(*full_circuit())


def truths(claim):
    """Whether the first word is true, by the functions of the second column; what else it is True of is checked below."""
    word, parts = claim[0], claim[1:]
    return {
        "equal": gates.are_equal, "settles": settling.settles, "alike": alike.are_alike, "needs": lambda machine, number: alike.needed(machine) >= number,
        "within": patterns.lies_within, "lasts": lasting.can_last, "keeps": maps.keeps, "onward": rings.keeps_further,
        "hidden": lambda *rest: faults.showing(*rest) is None,
        "covered": lambda circuit, menu, some, number: len(menus.fewest_tests(circuit, menu, some)) <= number,
        "reached": lambda *rest: lags.greatest_lags(*rest) is not None, "resets": lambda machine: resets.apart(machine) is None,
        "found": lambda *rest: trees.tree(*rest) is not None, "enough": feeds.is_enough, "agrees": boxes.alike_within, "planned": hands.we_keep,
    }[word](*parts)


def naive_paper(claim, value):
    """What the last column says of a value, for the first word or the second one."""
    word, parts = claim[0], claim[1:]

    def is_word(width):
        return type(value) in (list, tuple) and all(type(each) is tuple and each in letters_of(width) and all(type(bit) is int for bit in each) for each in value)

    def table_of_both():
        try:
            return all(gates.is_table_of(parts[0], wire, value) for wire in parts[1:])
        except ArithmeticError:
            return False

    def parts_bits():
        if type(value) is not tuple or len(value) != 2 or not all(type(each) is tuple and all(type(bit) is int for bit in each) for each in value):
            return False
        state, letter = value
        if state not in letters_of(len(parts[0].registers())) or letter not in letters_of(len(parts[0].inputs())):
            return False
        said = gates_said(parts[0], state, letter)
        return said[parts[1]] != said[parts[2]]

    judges = {
        "equal": table_of_both, "parted": parts_bits,
        "settles": lambda: settling.is_ranks(*parts, value), "swings": lambda: settling.is_swing(*parts, value) or settling.are_two_rests(*parts, value),
        "alike": lambda: alike.is_relation(*parts, value), "apart": lambda: alike.is_parting(*parts, value),
        "needs": lambda: alike.is_need_paper(*parts, value),
        "fewer": lambda: type(value) is Machine and len(value) < parts[1] and (value.width, value.out_width) == (parts[0].width, parts[0].out_width)
        and alike.are_alike(value, parts[0]),
        "within": lambda: patterns.is_within_table(*parts, value), "beyond": lambda: value in parts[0] and value not in parts[1],
        "lasts": lambda: lasting.is_lasting_places(*parts, value), "ends": lambda: lasting.is_end_ranks(*parts, value),
        "keeps": lambda: maps.is_kept_table(*parts, value), "breaks": lambda: maps.is_breaking_word(*parts, value),
        "onward": lambda: rings.is_further_table(*parts, value), "falls": lambda: rings.is_further_word(*parts, value),
        "hidden": lambda: faults.is_hiding(*parts, value),
        "shown": lambda: is_word(len(parts[0].inputs())) and answer(parts[0], value, stuck=parts[1]) != answer(parts[0], value, stuck=parts[2]),
        "covered": lambda: menus.is_cover(*parts[:3], value) and len(value) <= parts[3], "bare": lambda: menus.is_tree_against(*parts, value),
        "reached": lambda: lags.is_lags(parts[0], value) and lags.reaches(*parts, value), "barred": lambda: lags.is_ring(*parts, value),
        "resets": lambda: resets.is_reset(*parts, value), "splits": lambda: resets.is_apart(*parts, value),
        "found": lambda: trees.is_tree(*parts, value), "stuck": lambda: trees.is_stuck(*parts, value),
        "enough": lambda: feeds.is_choice(*parts, value), "lacking": lambda: feeds.is_conflict(*parts, value),
        "agrees": lambda: boxes.is_relation_within(*parts, value),
        "differs": lambda: is_word(parts[2].width) and value in parts[2] and answer(parts[0], value) != answer(parts[1], value),
        "planned": lambda: hands.is_plan(*parts, value), "spoiled": lambda: hands.is_spoiler(*parts, value),
    }
    return judges[word]()


def gates_said(circuit, state, letter):
    said = dict(zip(circuit.inputs(), letter))
    said.update(zip([name for name, _, _ in circuit.registers()], state))
    for name in circuit.sequence():
        kind, sources = circuit.kind(name), [said[wire] for wire in circuit.sources(name)]
        said[name] = {"low": lambda: 0, "high": lambda: 1, "not": lambda: 1 - sources[0], "and": lambda: min(sources), "or": lambda: max(sources),
                      "xor": lambda: int(sources[0] != sources[1]), "pick": lambda: sources[1] if sources[0] else sources[2]}[kind]()
    return said


def some_claims(many):
    """Claims of first words, of all lines, many of either truth."""
    circuits = list(some_circuits(many))
    for seed, (parts, circuit) in enumerate(circuits):
        chance = random.Random(seed)
        wires = circuit.wires()
        if wires:
            one, other = chance.choice(wires), chance.choice(wires)
            yield "equal", circuit, one, other
            fault = (one, chance.randrange(2))
            yield "hidden", circuit, fault, chance.choice([None, (other, 0)])
            menu = [[chance.choice(letters_of(len(parts[0]))) for _ in range(size)] for size in (1, 2)] + [[]]
            yield "covered", circuit, menu, [(wire, seed % 2) for wire in wires[:5]], seed % 4
        width, out_width = len(circuit.inputs()), len(circuit.outputs())
        if out_width <= 4:
            ahead, behind = random_pattern(seed, width, 1 + seed % 3, 0.5), random_pattern(seed + 9, out_width, 1 + seed % 3, 0.8)
            yield "keeps", circuit, ahead, behind
            if rings.is_late(circuit):
                yield "onward", circuit, ahead, behind
            twin = circuits[(seed + 6) % many][1]
            if (len(twin.inputs()), len(twin.outputs())) == (width, out_width):
                yield "agrees", circuit, twin, ahead
            yield "agrees", circuit, circuit, ahead
    for seed, machine in enumerate(some_machines(many, 5)):
        chance = random.Random(seed)
        yield "alike", machine, random_machine(seed + 40, machine.width, machine.out_width, 3, 1)
        yield "alike", machine, alike.least(machine)
        yield "needs", machine, chance.randrange(1, 6)
        yield "resets", machine
        yield "found", machine, sorted(chance.sample(range(len(machine)), chance.randrange(1, len(machine) + 1)))
    found = list(some_patterns(many))
    for seed, pattern in enumerate(found):
        yield "lasts", pattern
        yield "within", pattern & found[(seed + 3) % many] if found[(seed + 3) % many].width == pattern.width else pattern, pattern
        yield "within", pattern, random_pattern(seed + 70, pattern.width, 2, 0.7)
    for seed, wiring in enumerate(some_wirings(many)):
        yield "reached", wiring, lags.least_beat(wiring) - seed % 2
    for frame, box in some_frames(many, 1, registers=0, hangs=False):
        chance = random.Random(repr(frame))
        yield "enough", frame, box, [at for at in range(len(frame.feeds())) if chance.random() < 0.7]
    for game in some_games(many // 2, 3):
        yield "planned", game
    for tangle, letter, standing in ((LATCH, (1, 1), (0,)), (LATCH, (0, 0), (1,)), (RUN, (0,), (1,)), (TWO, (), (0, 1)), (TWO, (), (0, 0))):
        yield "settles", tangle, letter, standing
    yield from [("enough", SHOWN, BOTH, lot) for lot in ([], [0], [1], [0, 1])]


class ClaimTest(Case):
    def test_one_of_both(self):
        seen = {}
        for claim in some_claims(30):
            self.assertIs(is_claim(claim), True)
            other = contrary(claim)
            right = truths(claim)
            seen.setdefault(claim[0], {}).setdefault(right, 0)
            seen[claim[0]][right] += 1
            self.assertEqual([other, contrary(other), is_claim(other)], [(PAIRS[claim[0]],) + claim[1:], claim, True])
            self.assertEqual([is_true(claim), is_true(other)], [right, not right])
            true, false = (claim, other) if right else (other, claim)
            paper = paper_of(true)
            self.assertEqual([is_paper(true, paper), is_paper(false, paper), paper_of(false)], [True, False, None], claim[0])
            self.assertIs(naive_paper(true, paper), True)
            self.unlike_lists([paper] if not isinstance(paper, Machine) else [])
            for value in some_variants(paper, 12) + ODD[:6]:
                for each in (true, false):
                    self.assertIs(is_paper(each, value), naive_paper(each, value), (each[0], value))
            self.assertEqual(paper_of(true), paper)
        self.assertEqual(sorted(seen), sorted(LINES))
        for word, told in seen.items():
            self.assertEqual(len(told), 2, word)

    def test_things_at(self):
        for word, (other, places, _) in LINES.items():
            self.assertEqual([things_at(word), things_at(word=other)], [places, places])
        for value in [each for each in ODD if each != "x"] + ["equals", "Equal", "x", ("equal",), ["equal"], "", "equal "]:
            self.refuses_value(InvalidClaim, value, things_at, value)

    def test_papers_of_some_lines(self):
        cases = [
            (("equal", BOTH, "g", "g"), [Table(["y", "x"], [("x", 0, 1), ("y", 0, 2)], 3), Table(["x", "y"], [("y", 0, 1), ("y", 0, 1), ("x", 0, 2)], 4)],
             [Table(["x", "y"], [("x", 0, 1)], 2), Table(["x"], [("x", 0, 1)], 2), None, Table(["x", "z"], [("x", 0, 1)], 2)]),
            (("parted", FLIP, "n", "x"), [((1,), (0,)), ((1,), (1,))], [((0,), (0,)), ((1,), (2,)), ((True,), (0,)), [(1,), (0,)], ((1,), (0,), 0), ((1,),), ((), (0,))]),
            (("fewer", WIDE, 3), [LATE, Machine(1, 1, LATE.rows()[:2])], [WIDE, LOOP, Machine(1, 2, [[(0, (0, 0)), (0, (0, 0))]]), Machine(0, 1, [[(0, (0,))]]), None, 2]),
            (("swings", TWO, (), (0, 0)), [(["a"], ["b"]), (("b",), ["a"])], [([], []), ([], ["a"]), (["b"], ["b"]), [["a"], ["b"]], (["a"], ["b"], [])]),
            (("swings", RUN, (0,), (1,)), [([], ["n", "n"]), (["n"], ["n", "n"]), ((), ("n", "n"))], [([], ["n"]), ([], []), [[], ["n", "n"]]]),
            (("beyond", RARE, END), [[(1,)], ((1,),), [(0,), (0,)], [(1,), (0,)]], [[], [(0,)], [(1,), (1,)], (1,), None, [(True,)]]),
            (("shown", FLIP, ("q", 1), None), [[(0,)], [(1,)], [(0,), (0,)]], [[], [(2,)], (0,), None, [(False,)]]),
            (("covered", BOTH, MENU, [("g", 0), ("g", 1)], 2), [[0, 3], [1, 3], (2, 3)], [[3, 0], [0, 1, 3], [3], [0, True], [0, 1]]),
            (("reached", SLOW, 4), [{"a": -1, "b": 0}], [{"a": 0, "b": 0}, {"a": -1}, {"a": -1, "b": False}]),
            (("barred", SLOW, 3), [[("way", ("b",))], (("way", ("b",)), ("way", ("b",)))], [[], ("way", ("b",)), [("way", ("a",))]]),
            (("differs", TELL, TURN, Pattern.any_of(1)), [[(0,)], [(1,), (0,)]], [[], [(2,)], None]),
            (("resets", LATE), [[(0,)], [(1,), (1,)]], [[], [(0, 0)], [(0, 1)]]),
        ]
        for claim, right, wrong in cases:
            self.assertIs(is_true(claim), True)
            for value in right:
                self.assertIs(is_paper(claim=claim, value=value), True, (claim[0], value))
                self.assertIs(is_paper(contrary(claim), value), False)
            for value in wrong:
                self.assertIs(is_paper(claim, value), False, (claim[0], value))

    def test_tables_of_one_of_two_wires(self):
        claim = ("equal", FLIP, "n", "x")
        for wire in ("n", "x"):
            self.assertIs(is_paper(claim, gates.table_of(FLIP, wire)), False)
            self.assertIs(is_paper(("equal", FLIP, wire, wire), gates.table_of(FLIP, wire)), True)

    def test_a_beat_beyond_24_bits(self):
        # lags reach it although the wiring moved by them would have too many bits
        rows = {"a": ("not", 9, [("x", (0,))])}
        rows.update({name: ("xor", 9, [("a", ()), ("a", (1,))]) for name in "bcdefghij"})
        many = Wiring(["x"], rows, [("b", ())] * 4)
        self.assertIs(is_paper(("reached", many, 9), fewest.fewest_lags(many, 9)), True)

    def test_tables_by_which_too_many_rows_come(self):
        # in the circuit's order both of a pair stand together; where all first ones stand ahead too many rows come
        inputs, registers = list("abcdefgh"), ["r%d" % at for at in range(8)]
        names = inputs + registers
        rows = [("p%d" % at, "and", names[2 * at:2 * at + 2]) for at in range(8)]
        rows += [("o%d" % at, "or", ["p%d" % at, "o%d" % (at - 1) if at > 1 else "p0"]) for at in range(1, 8)]
        wide = Circuit(inputs, rows, [(name, 0, "a") for name in registers], [])
        claim = ("equal", wide, "o7", "o7")
        good, order = paper_of(claim), names[::2] + names[1::2]
        self.assertEqual([is_true(claim), len(good), is_paper(claim, good)], [True, 16, True])
        self.refuses(TooMany, ["rows", 300], gates.is_table_of, wide, "o7", Table(order, [], 0))
        for value in (Table(order, [], 0), Table(order, [("h", 0, 1), ("a", 0, 2)], 3)):
            self.assertIs(is_paper(claim, value), False)
        self.assertIs(is_paper(("equal", wide, "o3", "o3"), gates.table_of(wide, "o3", order)), True)

    def test_no_claims(self):
        flat, five = Pattern.any_of(2), Circuit(list("abcde"), [], [], ["a"])
        wrong = ODD + [
            (), (["equal"], BOTH, "g", "g"), ({}, BOTH), (1, BOTH), (None,), ("equal",), ["equal", BOTH, "g", "g"], ("equal", BOTH, "g"), ("equal", BOTH, "g", "g", "g"), ("equals", BOTH, "g", "g"), ("equal", SHOWN, "g", "g"),
            ("equal", BOTH, "z", "g"), ("equal", BOTH, "g", None), ("equal", BOTH, ["g"], "g"), ("equal", BIG, "t", "a"), ("equal", BIG, "t", "i0"),
            ("settles", LATCH, (1,), (0,)), ("settles", LATCH, (1, 1), (2,)), ("settles", FLIP, (1,), (0,)), ("swings", LATCH, (1, 1), None),
            ("alike", LATE, Machine(1, 2, [[(0, (0, 0)), (0, (0, 0))]])), ("alike", LATE, FLIP), ("apart", LATE), ("needs", LATE, 0), ("needs", LATE, True),
            ("fewer", LATE, -1), ("needs", LATE, None), ("within", RARE, flat), ("within", RARE, [{}]), ("lasts", FLIP), ("ends", None), ("lasts", RARE, RARE),
            ("keeps", FLIP, flat, RARE), ("keeps", FLIP, RARE, flat), ("keeps", five, RARE, RARE), ("keeps", BOTH, RARE, RARE), ("onward", FLIP, RARE, RARE),
            ("falls", WAIT, flat, RARE), ("hidden", FLIP, None, None), ("hidden", FLIP, ("q", 0), ("z", 0)), ("hidden", FLIP, ("q", True), None),
            ("shown", five, ("a", 0), None), ("hidden", FLIP, ("q", 0)), ("covered", BOTH, [], [("g", 0)], 1), ("covered", BOTH, MENU, [], 1),
            ("covered", BOTH, MENU, [("g", 0)], 4), ("bare", BOTH, MENU, [("g", 0)], True), ("bare", BOTH, MENU, [("g", 0)], -1), ("covered", five, [[]], [("a", 0)], 1),
            ("reached", SLOW, -1), ("barred", SLOW, False), ("reached", SLOW, None), ("reached", FLIP, 1), ("resets", cerny(17)), ("splits", FLIP),
            ("found", LATE, []), ("stuck", LATE, [1, 0]), ("found", LATE, [2]), ("found", cerny(17), [0]), ("found", ONE_MORE, [1, 2, 3, 4, 15]),
            ("enough", SHOWN, TELL, []), ("enough", SHOWN, BOTH, [2]), ("lacking", SHOWN, BOTH, None), ("enough", SHOWN, SHOWN, []), ("enough", BOTH, BOTH, []),
            ("enough", Frame(FLIP, ["q"], ["x"]), TELL, [0]), ("agrees", TELL, BOTH, RARE), ("agrees", TELL, TURN, flat), ("differs", TELL, TURN, None),
            ("agrees", counter(8, limit=250), counter(4), Pattern(1, [{(0,): 1}, {(0,): 1}])), ("planned", FLIP), ("spoiled",), ("planned", Game(SAME, ["y"], ONES), 1),
        ]
        for value in wrong:
            self.assertIs(is_claim(value), False)
            for call in (is_true, contrary, paper_of):
                self.refuses_value(InvalidClaim, value, call, value)
            self.refuses_value(InvalidClaim, value, is_paper, value, None)
        self.assertIs(is_claim(value=("found", MANY, [0, 1, 2, 3, 4])), True)
        self.assertIs(is_claim(("covered", BOTH, tuple(map(tuple, MENU)), (("g", 0),), 0)), True)
        self.assertEqual([is_true(claim=("planned", Game(ECHO, ["y"], ONES))), is_true(("spoiled", Game(ECHO, ["x"], ONES)))], [True, True])

    def test_numbers_of_covers(self):
        some = [("g", 0), ("g", 1), ("x", 1), ("y", 1)]
        for number in range(4):
            claim = ("covered", BOTH, MENU, some, number)
            self.assertIs(is_true(claim), number == 3)
            self.assertIs(is_paper(claim, [1, 2, 3]), number == 3)
            self.assertIs(is_paper(contrary(claim), paper_of(contrary(claim))), number < 3)

    def test_parts_are_not_changed_and_what_is_told_is_new(self):
        menu, some = [[(0, 0)], [(1, 1)]], [("g", 0)]
        claim = ("covered", BOTH, menu, some, 1)
        held = copy.deepcopy((menu, some))
        other = contrary(claim)
        self.unlike_lists([claim[2], claim[3], other[2], other[3]])
        other[2][0].append(None)
        other[3].append(None)
        self.assertEqual((menu, some), held)
        self.assertEqual(contrary(("covered", BOTH, tuple(menu), some, 1))[2], tuple(menu))
        self.assertEqual([naive_answer(([], [], [], []), [])[0], EITHER == BOTH], [[], False])
