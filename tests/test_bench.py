"""Points [99] and [100], wirewords/bench.py; of point [4] "One bench"."""

import copy
import random

from tests.boxing import BOTH, SHOWN, TELL
from tests.helping import ODD, Case
from tests.machining import FLIP, LATE, RARE, WAIT, WIDE, random_machine, random_pattern, some_circuits
from tests.test_claims import some_claims
from tests.test_hands import ONES, SAME
from tests.test_texts import HOLD
from tests.test_wirings import SELF, SLOW
from wirewords import alike, made, maps, runs, states, strongest, wirings
from wirewords.bench import Bench, tried
from wirewords.boxes import Frame
from wirewords.circuits import Circuit
from wirewords.claims import is_claim, is_paper, is_true, paper_of, things_at
from wirewords.errors import (
    GateRing, InvalidName, InvalidSources, InvalidWord, LimitError, MissingError, OtherWidth, OtherWidths, StateError, TooMany, UnknownWire, WireError,
)
from wirewords.hands import Game
from wirewords.machines import Machine
from wirewords.patterns import Pattern
from wirewords.refusals import (
    CannotGo, CommandFailed, InvalidClaim, InvalidCommand, InvalidParts, InvalidThing, Lost, NothingToRedo, NothingToUndo, TakenName, UnknownGate,
    UnknownName, WrongThing,
)
from wirewords.tables import Table

OWN = (WireError, MissingError, StateError, LimitError)
ANY = Pattern.any_of(1)


def full():
    """A bench with a thing of each class, and notes."""
    bench = Bench()
    for name, thing in (("c", FLIP), ("d", WAIT), ("t", HOLD), ("m", LATE), ("n", WIDE), ("w", SLOW), ("p", RARE), ("a", ANY), ("f", SHOWN), ("b", BOTH), ("g", Game(SAME, ["y"], ONES))):
        bench[name] = thing
    bench.note("keep", "keeps", ["c", "p", "a"])
    bench.note("same", "alike", ["m", "n"])
    bench.note("cover", "covered", ["b", [[(0, 0)], [(1, 1)]], [("g", 0)], 1])
    return bench


def told(bench):
    """All that a bench tells."""
    names, notes = bench.names(), bench.notes()
    things = [bench[name] for name in names]
    rows = [(name, bench.claim(name), bench.paper(name), bench.look(name)) for name in notes]
    return names, things, notes, rows, len(bench), bench.log()


class ThingsTest(Case):
    def test_put_and_read(self):
        bench = Bench()
        self.assertEqual(told(bench), ([], [], [], [], 0, []))
        things = [FLIP, HOLD, LATE, SLOW, RARE, SHOWN, Game(SAME, ["y"], ONES)]
        for at, thing in enumerate(things):
            bench["n%d" % at] = thing
            self.assertIs(bench["n%d" % at], thing)
        self.assertEqual([bench.names(), len(bench), bench.log()], [["n%d" % at for at in range(7)], 7, ["put n%d" % at for at in range(7)]])
        bench["n0"] = WAIT
        self.assertEqual([bench["n0"], len(bench), bench.names()[0]], [WAIT, 8, "n0"])
        self.assertEqual(["n0" in bench, "n9" in bench], [True, False])
        bench.names().append("x")
        bench.log().append("x")
        self.assertEqual([len(bench.names()), len(bench.log())], [7, 8])

    def test_in_takes_any_value(self):
        bench = full()
        for value in ODD:
            self.assertIs(value in bench, False)
        self.assertEqual(["c" in bench, "keep" in bench, "put" in bench], [True, True, False])

    def test_wrong_ones(self):
        bench = full()
        held = told(bench)
        for value in [each for each in ODD if each != "x"] + ["zz", "keep", ("c",), ["c"], "C"]:
            self.refuses_value(UnknownName, value, bench.__getitem__, value)
        for value in [None, 1, True, "", "X", "1x", "x" * 13, ("x",), ["x"], "a b"]:
            self.refuses_value(InvalidName, value, bench.__setitem__, value, None)
            self.refuses_value(InvalidName, value, bench.note, value, None, None)
        self.refuses(TakenName, ["keep"], bench.__setitem__, "keep", None)
        for value in ODD + [Table([], [], 0), Circuit, "circuit", [FLIP], bench]:
            self.refuses_value(InvalidThing, value, bench.__setitem__, "new", value)
            self.refuses_value(InvalidThing, value, bench.__setitem__, "c", value)
        self.assertEqual(told(bench), held)
        with self.assertRaises(TypeError):
            iter(bench)
        with self.assertRaises(TypeError):
            list(bench)
        self.assertIs(Bench() == Bench(), False)


class NoteTest(Case):
    def test_claims_of_all_lines(self):
        for claim in some_claims(8):
            bench, places = Bench(), things_at(claim[0])
            parts = list(claim[1:])
            for at in places:
                bench["p%d" % at] = parts[at]
                parts[at] = "p%d" % at
            word = bench.note(name="it", word=claim[0], parts=parts)
            self.assertIs(is_true((word,) + claim[1:]), True)
            self.assertEqual([bench.claim(name="it"), bench.look(name="it")], [(word,) + tuple(parts), "holds"])
            self.assertEqual([bench.paper(name="it"), is_paper((word,) + claim[1:], bench.paper("it"))], [paper_of((word,) + claim[1:]), True])
            self.assertEqual(bench.note("it", word, tuple(parts)), word)
            self.unlike_lists([bench.claim("it"), bench.claim("it"), parts])
            if not isinstance(bench.paper("it"), Machine):
                self.unlike_lists([bench.paper("it"), bench.paper("it")])
            self.assertEqual([bench.notes(), bench.log()[-2:], bench.renew(name="it"), bench.log()[-1]], [["it"], ["note it"] * 2, word, "renew it"])

    def test_parts_are_copied(self):
        bench = full()
        menu, some = [[(0, 0)], [(1, 1)]], [("g", 0)]
        parts = ["b", menu, some, 1]
        self.assertEqual(bench.note("new", "bare", parts), "covered")
        menu[1].append(None)
        some.append(None)
        parts[3] = 0
        self.assertEqual([bench.claim("new"), bench.paper("new"), bench.look("new")], [("covered", "b", [[(0, 0)], [(1, 1)]], [("g", 0)], 1), [1], "holds"])
        bench.claim("new")[1:][1][0].append(1)
        bench.paper("new").append(5)
        self.assertEqual([bench.claim("new")[2], bench.paper("new"), bench.look("new")], [[[(0, 0)], [(1, 1)]], [1], "holds"])

    def test_wrong_ones(self):
        bench = full()
        held = told(bench)
        self.refuses(TakenName, ["c"], bench.note, "c", None, None)
        for value in [None, 1, "keep", "Keeps", ("keeps",), ["keeps"], "", True]:
            self.refuses_value(InvalidClaim, value, bench.note, "new", value, None)
        for value in (None, 1, "cpa", {}, [], ["c", "p"], ["c", "p", "a", "a"], {"c": 1, "p": 1, "a": 1}, object()):
            self.refuses(InvalidParts, [None], bench.note, "new", "keeps", value)
        for at, value in ((0, None), (0, "z"), (0, FLIP), (1, "keep"), (1, ["p"]), (2, 5), (2, ("a",)), (2, "A")):
            parts = ["c", "p", "a"]
            parts[at] = value
            self.refuses(InvalidParts, [at], bench.note, "new", "breaks", parts)
            self.refuses(InvalidParts, [at], bench.note, "new", parts=parts[:at] + [value] + [None] * (2 - at), word="keeps")
        # parts at which no thing stands are told by the claim
        for word, parts, value in (("equal", ["c", "z", "n"], ("equal", FLIP, "z", "n")), ("keeps", ["m", "p", "a"], ("keeps", LATE, RARE, ANY)),
                                   ("needs", ["m", 0], ("needs", LATE, 0)), ("hidden", ("c", None, None), ("hidden", FLIP, None, None)), ("lasts", ["c"], ("lasts", FLIP))):
            self.refuses(InvalidClaim, [value], bench.note, "new", word, parts)
        self.assertEqual(told(bench), held)
        for value in [each for each in ODD if each != "x"] + ["zz", "c", ["keep"], ("keep",)]:
            for call in (bench.claim, bench.paper, bench.look, bench.renew):
                self.refuses_value(UnknownName, value, call, value)
        for value in [each for each in ODD if each != "x"] + ["zz", ["c"]]:
            self.refuses_value(UnknownName, value, bench.drop, value)
        self.assertEqual(told(bench), held)

    def test_holds_stale_and_lost(self):
        bench = Bench()
        bench["flip"], bench["rare"] = FLIP, RARE
        bench["weak"] = maps.weakest(FLIP, RARE)
        self.assertEqual([bench.note("safe", "breaks", ["flip", "weak", "rare"]), bench.look("safe")], ["keeps", "holds"])
        # a change that leaves the paper right
        bench["flip"] = made.with_gate(FLIP, "n", "xor", ["q", "x"])
        self.assertEqual(bench.look("safe"), "holds")
        bench.do("first flip flip q 1")
        self.assertEqual([bench.look("safe"), bench.do("told safe"), bench.renew("safe"), bench.look("safe"), bench.do("told safe")], ["stale", "keeps", "breaks", "holds", "breaks"])
        # a word that broke may not break any more
        bench.do("first flip flip q 0")
        self.assertEqual([bench.look("safe"), bench.paper("safe") in bench["weak"]], ["stale", True])
        for lost in (lambda: bench.drop("weak"), lambda: bench.__setitem__("weak", FLIP), lambda: bench.__setitem__("weak", Pattern.any_of(2))):
            lost()
            self.assertEqual([bench.look("safe"), bench.claim("safe"), bench.paper("safe") is None], ["lost", ("breaks", "flip", "weak", "rare"), False])
            held = told(bench)
            self.refuses(Lost, ["safe"], bench.renew, "safe")
            self.refuses(Lost, ["safe"], bench.do, "renew safe")
            self.assertEqual(told(bench), held)
            bench.undo()
            self.assertEqual(bench.look("safe"), "stale")
        self.assertEqual([bench.do("renew safe"), bench.look("safe")], ["keeps", "holds"])
        bench.drop("weak")
        # a note has the name of a thing that went
        bench.note("weak", "lasts", ["rare"])
        self.assertEqual([bench.look("safe"), bench.look("weak")], ["lost", "holds"])

    def test_a_paper_of_another_claim_is_stale(self):
        bench = Bench()
        bench["m"], bench["n"] = LATE, WIDE
        self.assertEqual(bench.note("it", "needs", ["m", 2]), "needs")
        bench["m"] = Machine(1, 1, [[(0, (0,)), (0, (0,))]])
        self.assertEqual([bench.look("it"), bench.renew("it"), bench.claim("it"), bench.look("it")], ["stale", "fewer", ("fewer", "m", 2), "holds"])
        bench["m"] = WIDE
        self.assertEqual(bench.look("it"), "stale")


class ChangesTest(Case):
    def test_undo_and_redo(self):
        bench = Bench()
        self.refuses(NothingToUndo, [], bench.undo)
        self.refuses(NothingToRedo, [], bench.redo)
        self.refuses(NothingToUndo, [], bench.do, "undo")
        self.refuses(NothingToRedo, [], bench.do, "redo")
        bench["x"] = FLIP
        bench["p"] = RARE
        bench.note("it", "lasts", ["p"])
        bench.drop("x")
        bench.renew("it")
        lines = ["put x", "put p", "note it", "drop x", "renew it"]
        seen = [told(bench)]
        for line in lines[::-1]:
            self.assertEqual([len(bench), bench.log()], [lines.index(line) + 1, lines[:lines.index(line) + 1]])
            self.assertEqual(bench.undo(), line)
            seen.append(told(bench))
        self.assertEqual(told(bench), told(Bench()))
        self.refuses(NothingToUndo, [], bench.undo)
        for line in lines:
            self.assertEqual(told(bench), seen.pop())
            self.assertEqual(bench.redo(), line)
        self.assertEqual(told(bench), seen.pop())
        self.refuses(NothingToRedo, [], bench.redo)
        # another change behind an undo
        bench.undo()
        bench.undo()
        bench["y"] = WAIT
        self.refuses(NothingToRedo, [], bench.redo)
        self.assertEqual([bench.log(), bench.names()], [["put x", "put p", "note it", "put y"], ["p", "x", "y"]])

    def test_what_fails_keeps_what_can_be_done_again(self):
        bench = full()
        bench.undo()
        for call in (lambda: bench.do("renew zz"), lambda: bench.do("gate c c z low"), lambda: bench.drop("zz"), lambda: bench.note("c", "lasts", ["p"]), lambda: bench.do("x"),
                     lambda: bench.do_all("drop c", "drop c"), lambda: bench.__setitem__("new", None)):
            with self.assertRaises(OWN):
                call()
        self.assertEqual([bench.redo(), bench.look("cover")], ["note cover", "holds"])

    def test_against_plain_benches(self):
        """Rows of actions at random, compared with dicts that are copied at each change."""
        for seed in range(25):
            chance = random.Random(seed)
            bench, done, undone, now = Bench(), [], [], ({}, {})
            for _ in range(60):
                things, notes = now
                way, name = chance.randrange(9), chance.choice(["a", "b", "c", "d", "e"])
                line, new = None, (dict(things), dict(notes))
                if way < 3:
                    thing = chance.choice([FLIP, WAIT, RARE, ANY, LATE, SLOW, random_pattern(seed, 1, 2, 0.7)])
                    if name in notes:
                        self.refuses(TakenName, [name], bench.__setitem__, name, thing)
                        continue
                    bench[name] = thing
                    new[0][name], line = thing, "put " + name
                elif way < 5:
                    patterns = [each for each in things if isinstance(things[each], Pattern) and things[each].width == 1]
                    if name in things or not patterns:
                        continue
                    one, other = chance.choice(patterns), chance.choice(patterns)
                    word = "within" if is_true(("within", things[one], things[other])) else "beyond"
                    self.assertEqual(bench.note(name, chance.choice(["within", "beyond"]), [one, other]), word)
                    new[1][name], line = (word, one, other), "note " + name
                elif way == 5:
                    if name not in things and name not in notes:
                        self.refuses(UnknownName, [name], bench.drop, name)
                        continue
                    self.assertIsNone(bench.drop(name))
                    new[0].pop(name, None)
                    new[1].pop(name, None)
                    line = "drop " + name
                elif way == 6 and done:
                    self.assertEqual(bench.undo(), done[-1][0])
                    undone.append((done[-1][0], now))
                    now = done.pop()[1]
                elif way == 7 and undone:
                    self.assertEqual(bench.redo(), undone[-1][0])
                    done.append((undone[-1][0], now))
                    now = undone.pop()[1]
                elif name in notes:
                    claim = (notes[name][0],) + tuple(things.get(each) for each in notes[name][1:])
                    if not is_claim(claim):
                        self.assertEqual(bench.look(name), "lost")
                        self.refuses(Lost, [name], bench.renew, name)
                        continue
                    word = claim[0] if is_true(claim) else {"within": "beyond", "beyond": "within"}[claim[0]]
                    self.assertEqual(bench.look(name), "holds" if is_paper(claim, bench.paper(name)) else "stale")
                    self.assertEqual(bench.renew(name), word)
                    new[1][name], line = (word,) + notes[name][1:], "renew " + name
                if line is not None:
                    done.append((line, now))
                    now, undone = new, []
                things, notes = now
                self.assertEqual([bench.names(), bench.notes(), len(bench), bench.log()], [sorted(things), sorted(notes), len(done), [each for each, _ in done]])
                self.assertTrue(all(bench[each] is things[each] for each in things))
                self.assertTrue(all(bench.claim(each) == notes[each] for each in notes))


class DoTest(Case):
    def test_what_commands_make(self):
        four, two = Pattern(1, [{(1,): 0}, {}]), random_machine(3, 1, 1, 4)
        things = {"c": FLIP, "d": WAIT, "m": LATE, "n": two, "w": SLOW, "p": RARE, "q": four, "t": HOLD, "f": SHOWN, "g": Game(SAME, ["y"], ONES)}
        rows = [
            ("gate new c n and x q", made.with_gate(FLIP, "n", "and", ["x", "q"])), ("gate new c n high", made.with_gate(FLIP, "n", "high", [])),
            ("first new c q 1", made.with_first(FLIP, "q", 1)), ("go new w a", wirings.gone(SLOW, "a")), ("make new beside c d", made.beside(FLIP, WAIT)),
            ("make new behind c d", made.behind(FLIP, WAIT)), ("make new pair m n", states.paired(LATE, two)), ("make new chain n m", states.chained(two, LATE)),
            ("make new machine c", states.machine_of(FLIP)), ("make new circuit w", wirings.circuit_of(SLOW)), ("make new least n", alike.least(two)),
            ("make new least q", four.least()), ("make new both p q", RARE & four), ("make new either p q", RARE | four), ("make new weakest c p", maps.weakest(FLIP, RARE)),
            ("make new strongest c p", strongest.strongest(FLIP, RARE)),
        ] + [("make new copy " + name, thing) for name, thing in things.items()]
        bench = Bench()
        for name, thing in things.items():
            bench[name] = thing
        for command, thing in rows:
            self.assertEqual([bench.do(command=command), bench["new"], bench.log()[-1]], ["done", thing, command])
            self.assertEqual([bench.undo(), "new" in bench, bench.redo(), bench["new"]], [command, False, command, thing])
            bench.do("drop new")
        # a thing takes the place of itself
        self.assertEqual([bench.do("gate c c n or x q"), bench["c"].kind("n"), bench.do("make c machine c"), isinstance(bench["c"], Machine)], ["done", "or", "done", True])

    def test_answers(self):
        bench = full()
        for parts, circuit in some_circuits(20, 3):
            bench["z"] = circuit
            chance = random.Random(repr(circuit))
            word = [tuple(chance.randrange(2) for _ in parts[0]) for _ in range(4)]
            text = "".join(" " + ("".join(map(str, letter)) or "-") for letter in word)
            right = [("".join(map(str, out)) or "-") for out in runs.answer(circuit, word)]
            self.assertEqual(bench.do("answer z" + text), " ".join(right))
        self.assertEqual([bench.do("answer c 1 1"), bench.do("answer m 1 1 0"), bench.do("answer w 1 1 0"), bench.do("answer b 11 01")], ["1 0", "0 1 1", "0 1 1", "1 0"])
        self.assertEqual([bench.do("answer c"), bench.do("answer m")], ["", ""])
        bench["z"] = Circuit([], [], [("r", 1, "r")], ["r", "r"])
        self.assertEqual(bench.do("answer z - -"), "11 11")
        bench["z"] = Circuit(["x"])
        self.assertEqual(bench.do("answer z 0 1"), "- -")
        held = told(bench)
        self.assertEqual([bench.do("look same"), bench.do("told same")], ["holds", "alike"])
        self.assertEqual(told(bench), held)
        for text, word in (("answer c 11", [(1, 1)]), ("answer c 1 -", [(1,), ()]), ("answer m -", [()]), ("answer w 0 10", [(0,), (1, 0)]), ("answer b " + "0" * 9, [(0,) * 9])):
            self.refuses(InvalidWord, [word], bench.do, text)

    def test_errors_in_their_sequence(self):
        bench = full()
        held = told(bench)
        for command, error, value in (
            ("gate keep z n low", UnknownName, "z"), ("make keep beside c z", UnknownName, "z"), ("make keep beside y z", UnknownName, "y"), ("make keep beside m z", UnknownName, "z"),
            ("go keep keep a", UnknownName, "keep"), ("answer z 1", UnknownName, "z"), ("answer keep 1", UnknownName, "keep"), ("look c", UnknownName, "c"), ("told c", UnknownName, "c"),
            ("renew c", UnknownName, "c"), ("look z", UnknownName, "z"), ("drop z", UnknownName, "z"), ("first keep z q 0", UnknownName, "z"),
            ("gate keep m n low", WrongThing, "m"), ("first keep w q 0", WrongThing, "w"), ("go keep c a", WrongThing, "c"), ("make keep beside c m", WrongThing, "m"),
            ("make keep beside t m", WrongThing, "t"), ("make keep pair m c", WrongThing, "c"), ("make keep chain w m", WrongThing, "w"), ("make keep machine m", WrongThing, "m"),
            ("make keep circuit m", WrongThing, "m"), ("make keep least c", WrongThing, "c"), ("make keep both p c", WrongThing, "c"), ("make keep either m p", WrongThing, "m"),
            ("make keep weakest p c", WrongThing, "p"), ("make keep strongest c c", WrongThing, "c"), ("answer p 1", WrongThing, "p"), ("answer t 1", WrongThing, "t"),
            ("answer f", WrongThing, "f"), ("answer g", WrongThing, "g"), ("make keep behind c f", WrongThing, "f"),
            ("gate keep c z low", TakenName, "keep"), ("first keep c z 0", TakenName, "keep"), ("go keep w b", TakenName, "keep"), ("make keep copy c", TakenName, "keep"),
            ("make same behind b c", TakenName, "same"), ("gate new c z low", UnknownWire, "z"), ("gate new c q low", UnknownWire, "q"), ("gate new c n not z", InvalidSources, ["z"]),
            ("first new c n 0", UnknownWire, "n"), ("go new w z", UnknownGate, "z"), ("go new w b", CannotGo, "b"), ("gate new c n not N", InvalidCommand, "gate new c n not N"),
        ):
            self.refuses(error, [value], bench.do, command)
        self.refuses(GateRing, ["n"], bench.do, "gate new c n not n")
        self.refuses(OtherWidth, [1, 2], bench.do, "make new behind c b")
        self.refuses(OtherWidth, [1, 2], bench.do, "make new strongest b p")
        bench["e"] = Machine(0, 0, [[(0, ())]])
        for command in ("make new pair m e", "make new chain m e"):
            with self.assertRaises(OtherWidths) as caught:
                bench.do(command)
            self.assertTrue(caught.exception.one is bench["m"] and caught.exception.other is bench["e"])
        bench.undo()
        bench["e"] = SELF
        self.assertEqual(bench.do("make new circuit e"), "done")
        bench["e"] = wirings.Wiring(["x"], {"a": ("not", 1, [("x", (0,) * 9)])}, [("a", ())])
        self.refuses(TooMany, ["registers", 8], bench.do, "make new circuit e")
        for _ in range(3):
            bench.undo()
        self.assertEqual(told(bench), held)

    def test_drop(self):
        bench = full()
        self.assertEqual([bench.do("drop c"), bench.look("keep"), bench.do("undo"), bench.look("keep")], ["done", "lost", "drop c", "holds"])
        self.assertEqual([bench.do("drop keep"), "keep" in bench, bench.do("undo"), bench.do("redo"), "keep" in bench], ["done", False, "drop keep", "drop keep", False])
        bench["keep"] = FLIP
        self.assertIs(bench["keep"], FLIP)

    def test_the_document(self):
        bench = Bench()
        bench["flip"] = FLIP
        bench["rare"] = RARE
        self.assertEqual([bench.do("make weak weakest flip rare"), bench.note("safe", "keeps", ["flip", "weak", "rare"]), bench.do("answer flip 1 1")], ["done", "keeps", "1 0"])
        self.assertEqual([bench.do("first flip flip q 1"), bench.do("look safe"), bench.do("renew safe"), bench.do("undo"), bench.do("undo"), bench.do("look safe")],
                         ["done", "stale", "breaks", "renew safe", "first flip flip q 1", "holds"])


class DoAllTest(Case):
    def test_all_answers(self):
        bench = full()
        many = len(bench)
        self.assertEqual(bench.do_all("answer c 1", "make z copy c", "drop c", "undo", "look keep", "told keep", "renew keep"),
                         ["1", "done", "done", "drop c", "holds", "keeps", "keeps"])
        self.assertEqual([len(bench), bench.log()[many:], bench.do_all()], [many + 2, ["make z copy c", "renew keep"], []])
        self.assertEqual([bench.do_all("undo", "redo"), bench.do_all("undo")], [["renew keep"] * 2, ["renew keep"]])

    def test_one_fails(self):
        commands = ["make z copy c", "drop keep", "undo", "first c c q 1"]
        for at in range(5):
            for wrong, error, attribute in (("drop zz", UnknownName, "zz"), ("DROP", InvalidCommand, "DROP"), (None, InvalidCommand, None), ("make same copy c", TakenName, "same")):
                bench = full()
                bench.undo()
                held = told(bench)
                if wrong == "make same copy c" and at > 0:
                    continue
                with self.assertRaises(CommandFailed) as caught:
                    bench.do_all(*(commands[:at] + [wrong] + commands[at:]))
                self.assertEqual([caught.exception.position, type(caught.exception.__cause__), caught.exception.__cause__.value], [at, error, attribute])
                self.assertEqual(told(bench), held)
                self.assertEqual(bench.redo(), "note cover")
        bench = Bench()
        with self.assertRaises(CommandFailed) as caught:
            bench.do_all("undo")
        self.assertEqual([caught.exception.position, type(caught.exception.__cause__)], [0, NothingToUndo])
        bench["c"] = FLIP
        with self.assertRaises(CommandFailed) as caught:
            bench.do_all("undo", "redo", "redo")
        self.assertEqual([caught.exception.position, type(caught.exception.__cause__), bench.log()], [2, NothingToRedo, ["put c"]])
        with self.assertRaises(CommandFailed) as caught:
            bench.do_all("undo", "answer c 1")
        self.assertEqual([caught.exception.position, bench.names(), len(bench)], [1, ["c"], 1])


class TriedTest(Case):
    def test_what_is_returned(self):
        bench = full()
        bench.undo()
        held = told(bench)

        def action(passed):
            self.assertIs(passed, bench)
            passed.do("drop c")
            passed["c"] = RARE
            passed.note("new", "lasts", ["c"])
            return passed.names(), passed.notes(), len(passed)

        self.assertEqual(tried(bench=bench, action=action), (["a", "b", "c", "d", "f", "g", "m", "n", "p", "t", "w"], ["keep", "new", "same"], len(bench) + 3))
        self.assertEqual(told(bench), held)
        self.assertEqual([tried(bench, len), tried(bench, lambda passed: None)], [len(bench), None])
        self.assertEqual([bench.redo(), bench.look("cover")], ["note cover", "holds"])

    def test_errors_go_on(self):
        class Odd(Exception):
            pass

        bench = full()
        bench.undo()
        held = told(bench)

        def action(passed):
            passed.undo()
            passed.do("drop c")
            raise Odd

        with self.assertRaises(Odd):
            tried(bench, action)
        self.assertEqual(told(bench), held)
        with self.assertRaises(UnknownName):
            tried(bench, lambda passed: [passed.do("drop c"), passed.do("drop c")])
        with self.assertRaises(CommandFailed):
            tried(bench, lambda passed: [passed.do("drop d"), passed.do_all("drop c", "drop c")])
        self.assertEqual([told(bench), bench.redo()], [held, "note cover"])

    def test_actions_that_undo_redo_do_all_and_try(self):
        bench = full()
        bench.undo()
        held = told(bench)

        def action(passed):
            rows = [passed.redo(), passed.undo(), passed.undo(), passed.do_all("drop c", "undo")]
            rows.append(tried(passed, lambda again: [again.do("drop d"), len(again.names())]))
            rows.append(len(passed.names()))
            while len(passed):
                passed.undo()
            return rows, passed.names()

        rows, names = tried(bench, action)
        self.assertEqual([rows, names], [["note cover", "note cover", "note same", ["done", "drop c"], ["done", 10], 11], []])
        self.assertEqual([told(bench), bench.redo()], [held, "note cover"])

    def test_many_changes(self):
        bench = Bench()
        bench["c"] = FLIP
        for at in range(140):
            self.assertEqual(bench.do("first c c q %d" % (at % 2)), "done")
        self.assertEqual([len(bench), bench["c"].first()], [141, (1,)])
        for at in range(140, 0, -1):
            self.assertEqual(bench.undo(), "first c c q %d" % ((at - 1) % 2))
        self.assertEqual([len(bench), bench["c"] is FLIP], [1, True])

    def test_repeated_and_unchanged(self):
        bench = full()
        held = copy.deepcopy([bench.claim(name) for name in bench.notes()])
        for call in (bench.names, bench.notes, bench.log):
            self.assertEqual(call(), call())
            self.assertIsNot(call(), call())
        self.assertEqual([bench.claim(name) for name in bench.notes()], held)
        frame = Frame(FLIP, ["q"], ["x"])
        bench["f"] = frame
        self.assertEqual([bench["f"], TELL == BOTH], [frame, False])
