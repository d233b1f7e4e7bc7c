"""Points [61] and [62], wirewords/faults.py; of point [4] "Shown or hidden"."""

import itertools

from tests.helping import Case, letters_of, random_parts
from tests.machining import FLIP, NOTHING, counter, naive_answer, reached, some_circuits, words_of
from wirewords.alike import are_alike
from wirewords.circuits import Circuit
from wirewords.errors import InvalidFault, InvalidWord, TooMany
from wirewords.faults import classes, faults, hidden, hiding, is_hiding, showing, shows_at
from wirewords.made import with_gate
from wirewords.runs import answer
from wirewords.states import machine_of

BOTH = Circuit(["x", "y"], [("g", "and", ["x", "y"])], [], ["g"])
# the gate g never matters, so that it may be stuck, and what it reads
DULL = Circuit(["x", "y"], [("l", "low", []), ("g", "and", ["l", "y"]), ("o", "or", ["g", "x"])], [], ["o"])
FIVE = Circuit(list("abcde"), [], [], ["a"])
WRONG = [5, True, "x", (), [], {}, ("x",), ["x", 0], ("x", 2), ("x", -1), ("x", True), ("x", False), ("x", None), ("z", 0), ("x", 0, 0),
         (None, 0), (["x"], 0), ("x", (0,)), object()]


def some_parts(many):
    for seed in range(many):
        parts = random_parts(seed, seed % 3, seed % 5, seed % 3, 1 + seed % 2)
        yield parts, Circuit(*parts)


def naive_showing(parts, fault, other):
    for word in words_of(len(parts[0]), {0: 9, 1: 6, 2: 4}[len(parts[0])]):
        if naive_answer(parts, word, None, fault)[0] != naive_answer(parts, word, None, other)[0]:
            return word
    return None


class FaultsTest(Case):
    def test_all_faults(self):
        self.assertEqual(faults(circuit=BOTH), [("g", 0), ("g", 1), ("x", 0), ("x", 1), ("y", 0), ("y", 1)])
        self.assertEqual(faults(FLIP), [(wire, bit) for wire in "nqx" for bit in (0, 1)])
        self.assertEqual([faults(NOTHING), len(faults(FIVE))], [[], 10])
        for _, circuit in some_circuits(20):
            self.assertEqual(faults(circuit), sorted(itertools.product(circuit.wires(), (0, 1))))

    def test_shows_at(self):
        for parts, circuit in some_parts(20):
            suspects = [None] + faults(circuit)
            for fault, other in itertools.product(faults(circuit)[:6], suspects[:5]):
                for word in words_of(len(parts[0]), 2):
                    expected = naive_answer(parts, word, None, fault)[0] != naive_answer(parts, word, None, other)[0]
                    self.assertIs(shows_at(circuit, word, fault, other), expected)
                    if other is None:
                        self.assertIs(shows_at(circuit, tuple(word), fault), expected)
        self.assertIs(shows_at(circuit=FLIP, word=[(1,), (0,)], fault=("q", 0), other=("q", 1)), True)
        self.assertIs(shows_at(FLIP, [], ("q", 1)), False)
        # whatever many inputs
        wide = Circuit(list("abcdefgh"), [], [], ["h"] * 8)
        self.assertEqual([shows_at(wide, [(0,) * 8], ("h", 1)), shows_at(wide, [(0,) * 8], ("h", 0))], [True, False])


class ShowingTest(Case):
    def test_one_of_both(self):
        seen = {True: 0, False: 0}
        for seed, (parts, circuit) in enumerate(some_parts(40)):
            all_faults = faults(circuit)
            others = [None] + all_faults
            for fault, other in itertools.product(all_faults[seed % 3::3], others[seed % 4::4]):
                word, told = showing(circuit, fault, other), hiding(circuit, fault, other)
                found = naive_showing(parts, fault, other)
                if found is not None or word is None:
                    self.assertEqual(word, found)
                seen[word is None] += 1
                self.assertIs(told is None, word is not None)
                if word is None:
                    self.assertIs(is_hiding(circuit, fault, other, told), True)
                    self.check_paper(parts, fault, other, told)
                else:
                    self.assertIs(shows_at(circuit, word, fault, other), True)
        self.assertGreater(min(seen.values()), 50)

    def check_paper(self, parts, fault, other, told):
        first = naive_answer(parts, [])[1]

        def steps(pair):
            for letter in letters_of(len(parts[0])):
                yield tuple(naive_answer(parts, [letter], state, stuck)[1] for state, stuck in zip(pair, (fault, other)))

        self.assertEqual(told, reached((first, first), steps))

    def test_the_document(self):
        self.assertEqual([showing(circuit=BOTH, fault=("x", 1)), hiding(circuit=BOTH, fault=("g", 0), other=("x", 0))],
                         [[(0, 1)], [((), ())]])
        self.assertEqual([showing(FLIP, ("q", 1)), showing(FLIP, ("q", 0)), showing(circuit=FLIP, fault=("q", 0), other=("q", 1))],
                         [[(0,)], [(1,), (0,)], [(0,)]])
        self.assertIs(is_hiding(FLIP, ("q", 0), None, [((0,), (0,))]), False)

    def test_the_fault_in_front(self):
        told = hiding(FLIP, ("q", 0), ("n", 0))
        self.assertIsNone(told)
        late = Circuit(["x"], [("g", "low", [])], [("q", 0, "x")], ["g"])
        self.assertEqual(hiding(late, ("x", 0)), [((0,), (0,)), ((0,), (1,))])
        self.assertEqual(hiding(late, ("x", 0), ("x", 1)), [((0,), (0,)), ((0,), (1,))])
        self.assertEqual(hiding(late, ("x", 1), ("x", 0)), [((0,), (0,)), ((1,), (0,))])
        self.assertEqual(hiding(late, ("x", 1), ("x", 1)), [((0,), (0,)), ((1,), (1,))])
        self.unlike_lists(hiding(late, ("x", 0)))

    def test_stuck_gates_say_what_others_would(self):
        for _, circuit in some_parts(30):
            for name, _, _ in circuit.gates():
                for bit, kind in enumerate(("low", "high")):
                    other = with_gate(circuit, name, kind, [])
                    self.assertTrue(are_alike(machine_of(circuit, (name, bit)), machine_of(other)))
                    self.assertIs(showing(circuit, (name, bit)) is None, are_alike(machine_of(circuit), machine_of(other)))

    def test_hidden_by_machines_that_are_alike(self):
        for _, circuit in some_parts(40):
            for fault in faults(circuit):
                alike = are_alike(machine_of(circuit, fault), machine_of(circuit))
                self.assertIs(showing(circuit, fault) is None, alike)
                self.assertIs(fault in hidden(circuit), alike)


class HidingPaperTest(Case):
    def test_any_value(self):
        late = Circuit(["x"], [("g", "low", [])], [("q", 0, "x")], ["g"])
        good = [((0,), (0,)), ((0,), (1,))]
        for value in (good, tuple(good), good[::-1]):
            self.assertIs(is_hiding(circuit=late, fault=("x", 0), other=None, value=value), True)
        wrong = [None, 5, True, "00", {}, {pair: 1 for pair in good}, [], (), object(), good[:1], good[1:], late]
        wrong += [good + [each] for each in (
            good[0], ((0,),), ((0,), (0,), (0,)), ((2,), (0,)), ((0,), (2,)), ((), ()), ((0, 0), (0, 0)), (0, 0), None, [(1,), (0,)],
            ([1], [0]), "10", 1, ())]
        wrong += [[((False,), (0,)), good[1]], [((0,), (False,)), good[1]], [good[0], ((0,), (True,))], [list(pair) for pair in good]]
        for value in wrong:
            self.assertIs(is_hiding(late, ("x", 0), None, value), False)
        # tuples that are not come to may stand in it, if all that comes of them does
        self.assertIs(is_hiding(late, ("x", 0), None, good + [((1,), (0,)), ((1,), (1,))]), True)
        self.assertIs(is_hiding(late, ("x", 0), ("x", 1), good), True)
        self.assertIs(is_hiding(late, ("x", 1), None, good), False)

    def test_no_paper_where_it_shows(self):
        pairs = list(itertools.product([(0,), (1,)], repeat=2))
        for fault in faults(FLIP):
            if showing(FLIP, fault) is not None:
                for many in range(5):
                    for value in itertools.combinations(pairs, many):
                        self.assertIs(is_hiding(FLIP, fault, None, value), False)


class ClassesTest(Case):
    def test_against_words(self):
        for parts, circuit in some_parts(40):
            groups = {}
            for fault in faults(circuit):
                words = words_of(len(parts[0]), {0: 9, 1: 5, 2: 3}[len(parts[0])])
                key = tuple(tuple(naive_answer(parts, word, None, fault)[0]) for word in words)
                groups.setdefault(key, []).append(fault)
            words = words_of(len(parts[0]), {0: 9, 1: 5, 2: 3}[len(parts[0])])
            sound = groups.pop(tuple(tuple(naive_answer(parts, word)[0]) for word in words), [])
            self.assertEqual(hidden(circuit), sound)
            self.assertEqual(classes(circuit), sorted(groups.values()))

    def test_ordinary(self):
        self.assertEqual(classes(circuit=BOTH), [[("g", 0), ("x", 0), ("y", 0)], [("g", 1)], [("x", 1)], [("y", 1)]])
        self.assertEqual([hidden(circuit=BOTH), hidden(DULL)], [[], [("g", 0), ("l", 0), ("y", 0), ("y", 1)]])
        self.assertEqual(classes(DULL), [[("g", 1), ("o", 1), ("x", 1)], [("l", 1)], [("o", 0), ("x", 0)]])
        self.assertEqual([hidden(NOTHING), classes(NOTHING)], [[], []])
        silent = Circuit(["x"], [], [("q", 0, "x")], [])
        self.assertEqual([hidden(silent), classes(silent)], [faults(silent), []])
        self.unlike_lists(classes(BOTH))

    def test_eight_outputs_and_four_inputs(self):
        made = Circuit(list("abcd"), [("g", "xor", ["a", "b"])], [("q", 0, "g"), ("p", 1, "c")], list("abcdgqpg"))
        self.assertEqual([hidden(made), len(classes(made))], [[], 14])
        # what is told only together with another wire
        pair = Circuit(["a"], [("n", "not", ["a"])], [], ["a", "n"] * 4)
        self.assertEqual(classes(pair), [[("a", 0)], [("a", 1)], [("n", 0)], [("n", 1)]])


class WrongTest(Case):
    def test_faults(self):
        made = Circuit(["x"], [], [], ["x"])
        for value in WRONG:
            for call in (showing, hiding, lambda circuit, fault, other=None: shows_at(circuit, [], fault, other),
                         lambda circuit, fault, other=None: is_hiding(circuit, fault, other, None)):
                self.refuses_value(InvalidFault, value, call, made, value, 5)
                self.refuses_value(InvalidFault, value, call, made, ("x", 0), value)
                self.refuses_value(InvalidFault, value, call, FIVE, value, None)
        for call in (showing, hiding, lambda circuit, fault: shows_at(circuit, [], fault)):
            self.refuses_value(InvalidFault, None, call, made, None)
        for value in (None, 5, "0", [0], [()], [(0, 0)], [(2,)], [(True,)], [[0]], {(0,): 1}, object()):
            self.refuses_value(InvalidWord, value, shows_at, made, value, None, 5)

    def test_limits(self):
        for call in (showing, hiding):
            self.refuses(TooMany, ["inputs", 4], call, FIVE, ("a", 0))
            self.assertIsNotNone([call(counter(6), ("q0", 1))])
            self.assertIsNotNone([call(counter(7, limit=64), ("q0", 0))])
            self.refuses(TooMany, ["states", 64], call, counter(7), ("q0", 0))
            # the one of both, and the other one, though a word parts them at once
            self.refuses(TooMany, ["states", 64], call, counter(7), ("q0", 0), ("tq0", 0))
            self.refuses(TooMany, ["states", 64], call, counter(7), ("tq0", 0), ("q0", 0))
            self.refuses(TooMany, ["states", 64], call, counter(7), ("tq0", 0))
            self.refuses(TooMany, ["inputs", 4], call, counter(7, 5), ("q0", 1))
        self.assertEqual(len(hiding(counter(7, outputs=0), ("tq0", 0), ("tq0", 0))), 64)
        self.refuses(TooMany, ["inputs", 4], is_hiding, FIVE, ("a", 0), None, None)
        # a paper is judged however many states there are
        loose = counter(7, 0, 0)
        states = [tuple(int(sign) for sign in format(at, "07b")) for at in range(128)]
        self.assertIs(is_hiding(loose, ("q0", 0), ("q0", 0), list(zip(states, states))), True)
        for call in (hidden, classes):
            self.refuses(TooMany, ["inputs", 4], call, FIVE)
            self.refuses(TooMany, ["inputs", 4], call, counter(7, 5))
            self.refuses(TooMany, ["states", 64], call, counter(7))
            self.assertIsNotNone(call(counter(6)))
        # more states are come to with a fault alone
        stays = counter(7).gates() + [("off", "low", [])]
        kept = [("k%d" % k, "and", ["off", "tq%d" % k]) for k in range(7)]
        made = Circuit([], stays + kept, [("q%d" % k, 0, "k%d" % k) for k in range(7)], ["q0"])
        self.assertEqual(len(machine_of(made)), 1)
        for call in (hidden, classes):
            self.refuses(TooMany, ["states", 64], call, made)
        for call in (showing, hiding):
            self.refuses(TooMany, ["states", 64], call, made, ("off", 1))
        self.assertEqual(answer(made, [()]), [(0,)])
