"""Point [4] as a whole: what one part tells is a circuit, a machine, a word or a paper for the others."""

import random

from tests.boxing import some_frames
from tests.helping import Case, letters_of
from tests.machining import FLIP, RARE, WAIT, random_machine, random_pattern, some_circuits, some_machines
from tests.test_claims import some_claims
from tests.test_hands import some_games
from tests.test_lags import small_wirings
from wirewords.alike import are_alike, least
from wirewords.asked import asking, guess
from wirewords.bench import Bench, tried
from wirewords.boxes import put_in, stands
from wirewords.circuits import Circuit
from wirewords.claims import contrary, is_claim, is_paper, is_true, paper_of
from wirewords.errors import LimitError, MissingError, StateError, WireError
from wirewords.feeds import chosen_box, enough_lots, may_stand
from wirewords.fewest import fewest_lags
from wirewords.hands import planned, we_keep
from wirewords.lags import greatest_lags, least_beat, moved
from wirewords.maps import keeps, weakest
from wirewords.patterns import Pattern, fit_alike, lies_within
from wirewords.resets import any_homing, where
from wirewords.runs import answer
from wirewords.states import circuit_of, machine_of, paired
from wirewords.strongest import strongest
from wirewords.tangles import Tangle
from wirewords.texts import read, written
from wirewords.wirings import beat_of
from wirewords.wirings import circuit_of as circuit_of_wiring

OWN = (WireError, MissingError, StateError, LimitError)
HOWS = {"copy": 1, "beside": 2, "behind": 2, "pair": 2, "chain": 2, "machine": 1, "circuit": 1, "least": 1, "both": 2, "either": 2, "weakest": 2, "strongest": 2}


class PartsTest(Case):
    def test_wirings_circuits_and_machines(self):
        found = 0
        for wiring in small_wirings(60, bits=4):
            if len(wiring.inputs()) > 2 or len(wiring.outputs()) > 2:
                continue
            beat = least_beat(wiring)
            first = machine_of(circuit_of_wiring(wiring))
            for lags in (greatest_lags(wiring, beat), fewest_lags(wiring, beat)):
                made = moved(wiring, lags)
                self.assertLessEqual(beat_of(made), beat)
                if made.bits <= 6:
                    self.assertIs(are_alike(first, machine_of(circuit_of_wiring(read(written(made))))), True)
                    found += 1
        self.assertGreater(found, 30)

    def test_guesses_become_circuits(self):
        for machine in some_machines(20, 5):
            if machine.width > 2 or machine.out_width > 2:
                continue
            table, made, word = asking(machine)[-1]
            self.assertEqual([guess(machine, table), word, made], [made, None, least(machine)])
            circuit = circuit_of(made)
            self.assertIs(are_alike(machine_of(read(written(circuit))), machine), True)
            homing = any_homing(machine)
            self.assertEqual(len({tuple(least(machine.begun(each)).rows()[0]) for each in where(machine, homing, machine.answer(homing))}), 1)

    def test_chosen_boxes_change_no_answer(self):
        found = 0
        for frame, box in some_frames(120, 1, registers=0, hangs=False):
            whole = put_in(frame, box)
            for lot in enough_lots(frame, box):
                made = chosen_box(frame, box, lot)
                self.assertEqual([may_stand(frame, box, made), stands(frame, made)], [True, True])
                self.assertIs(are_alike(machine_of(whole), machine_of(put_in(frame, made))), True)
                self.assertIs(is_paper(("agrees", whole, put_in(frame, made), Pattern.any_of(len(whole.inputs()))), [((), (), 0)]), True)
                found += 1
        self.assertGreater(found, 100)

    def test_planned_circuits_keep_the_pattern(self):
        found = 0
        for game in some_games(80, 3):
            if not we_keep(game):
                continue
            made = planned(game)
            any_of = Pattern.any_of(len(made.inputs()))
            self.assertIs(keeps(made, any_of, game.pattern), True)
            self.assertIs(lies_within(strongest(made, any_of), game.pattern), True)
            self.assertIs(fit_alike(weakest(made, game.pattern), any_of), True)
            self.assertEqual(read(written(made)), made)
            found += 1
        self.assertGreater(found, 30)

    def test_tangles_of_circuits(self):
        for _, circuit in some_circuits(60):
            if not circuit.registers() and 0 < len(circuit) <= 6 and len(circuit.inputs()) <= 4:
                tangle = Tangle.of(circuit)
                self.assertEqual(read(written(tangle)), tangle)
                for letter in letters_of(len(circuit.inputs())):
                    self.assertIs(is_true(("settles", tangle, letter, tangle.standings()[0])), True)


class BenchTest(Case):
    def test_all_lines_behind_changes_undone_and_done_again(self):
        for claim in some_claims(6):
            word = claim[0] if is_true(claim) else contrary(claim)[0]
            bench, parts = Bench(), []
            for at, part in enumerate(claim[1:]):
                if isinstance(part, (str, int, tuple, list)) or part is None:
                    parts.append(part)
                else:
                    bench["p%d" % at] = part
                    parts.append("p%d" % at)
            self.assertEqual(bench.note("it", claim[0], parts), word)
            paper, many = bench.paper("it"), len(bench)
            for name in bench.names():
                bench.do("make copy copy " + name)
                bench.drop(name)
                self.assertEqual(bench.look("it"), "lost")
                bench.do("make " + name + " copy copy")
                self.assertEqual(bench.look("it"), "holds")
            while len(bench) > many:
                bench.undo()
            self.assertEqual([bench.look("it"), bench.paper("it")], ["holds", paper])
            for _ in bench.names():
                bench.redo()
            self.assertIs(is_paper((word,) + claim[1:], paper), True)

    def test_what_commands_tell_is_what_the_parts_tell(self):
        """Commands at random on a bench of all sorts; notes look as their papers are judged."""
        done = failed = 0
        for seed in range(14):
            chance = random.Random(seed)
            bench = Bench()
            bench["a"], bench["b"], bench["c"] = FLIP, WAIT, RARE
            bench["d"], bench["e"] = random_machine(seed, 1, 1, 3), random_pattern(seed, 1, 3, 0.7)
            names = list("abcdefgh")
            for _ in range(70):
                how = chance.choice(list(HOWS))
                rows = [
                    "make %s %s %s" % (chance.choice(names), how, " ".join(chance.choice(names) for _ in range(HOWS[how]))),
                    "first %s %s q %d" % (chance.choice(names), chance.choice("ab"), chance.randrange(2)),
                    "gate %s a n %s x q" % (chance.choice(names), chance.choice(["and", "or", "xor"])),
                    chance.choice(["undo", "redo"]), "drop " + chance.choice(names), "answer %s 1 0" % chance.choice(names), "renew n%d" % chance.randrange(3),
                ]
                command = chance.choice(rows[:1] * 3 + rows)
                held = self.seen(bench)
                lines = bench.log()
                try:
                    answered = bench.do(command)
                except OWN:
                    failed += 1
                    self.assertEqual(self.seen(bench), held)
                    with self.assertRaises(OWN):
                        tried(bench, lambda passed, command=command: passed.do(command))
                    continue
                done += 1
                if command not in ("undo", "redo") and not command.startswith("answer"):
                    self.assertEqual(bench.log(), lines + [command])
                    self.assertEqual([bench.undo(), self.seen(bench)], [command, held])
                    self.assertEqual(bench.redo(), command)
                if command.startswith("answer"):
                    thing = bench[command.split(" ")[1]]
                    right = answer(thing, [(1,), (0,)]) if isinstance(thing, Circuit) else thing.answer([(1,), (0,)])
                    self.assertEqual(answered, " ".join("".join(map(str, bits)) or "-" for bits in right))
                self.check_notes(bench, chance)
        self.assertGreater(min(done, failed), 200)

    def seen(self, bench):
        return [(name, bench[name]) for name in bench.names()], [(name, bench.claim(name), bench.paper(name)) for name in bench.notes()], bench.log()

    def check_notes(self, bench, chance):
        for name in bench.notes():
            word, *parts = bench.claim(name)
            whole = (word,) + tuple(bench[part] if part in bench.names() else None for part in parts)
            right = "lost" if not is_claim(whole) else "holds" if is_paper(whole, bench.paper(name)) else "stale"
            self.assertEqual([bench.look(name), bench.do("look " + name), bench.do("told " + name)], [right, right, word])
        patterns = [name for name in bench.names() if isinstance(bench[name], Pattern) and bench[name].width == 1]
        if len(patterns) > 1 and chance.random() < 0.4:
            pair = chance.sample(patterns, 2)
            told = bench.note("n%d" % chance.randrange(3), "within", pair)
            self.assertIs(told == "within", lies_within(bench[pair[0]], bench[pair[1]]))

    def test_papers_go_with_copies_of_the_things(self):
        # what is read back from its written form has the same papers
        found = 0
        for claim in some_claims(10):
            try:
                parts = tuple(part if isinstance(part, (str, int, tuple, list)) or part is None else read(written(part)) for part in claim[1:])
            except WireError:
                continue
            for each in (claim, contrary(claim)):
                paper = paper_of(each)
                if paper is not None:
                    self.assertIs(is_paper((each[0],) + parts, paper), True)
                    found += 1
        self.assertGreater(found, 60)
        pair = paired(machine_of(FLIP), machine_of(WAIT))
        self.assertEqual([len(pair), pair.out_width], [4, 2])
