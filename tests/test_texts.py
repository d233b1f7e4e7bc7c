"""Point [97], wirewords/texts.py."""

import random
import re

from tests.boxing import SHOWN
from tests.helping import ODD, Case
from tests.machining import FLIP, RARE, random_machine, random_pattern, some_circuits, some_machines, some_patterns, words_of
from tests.test_wirings import SELF, SLOW
from tests.wiring import some_wirings
from wirewords.bits import KINDS
from wirewords.circuits import Circuit
from wirewords.errors import InvalidWord
from wirewords.hands import Game
from wirewords.machines import Machine
from wirewords.patterns import Pattern
from wirewords.refusals import InvalidText, InvalidThing
from wirewords.tables import Table
from wirewords.tangles import Tangle
from wirewords.texts import read, read_word, written, written_word
from wirewords.wirings import Wiring

HOLD = Tangle(["r", "s"], [("m", "or", ["r", "p"]), ("q", "not", ["m"]), ("n", "or", ["s", "q"]), ("p", "not", ["n"])])
NAME, NUMBER, BITS = "[a-z][a-z0-9]{0,11}", "(?:0|[1-9][0-9]*)", "(?:-|[01]+)"


def things():
    yield from (circuit for _, circuit in some_circuits(24))
    yield from some_machines(16)
    yield from some_patterns(16)
    yield from some_wirings(20)
    yield from (FLIP, HOLD, SLOW, SELF, RARE, Circuit([]), Circuit([], [], [], []), Tangle([], [("a", "low", [])]), Machine(0, 0, [[(0, ())]]),
                Pattern(0, [{}]), Pattern(0, [{(): 0}]), Pattern(2, [{}, {}]), random_machine(1, 0, 3, 3), random_machine(2, 2, 0, 3),
                random_pattern(5, 4, 3), Wiring(["x"], {"g": ("low", 1, [])}, [("x", ())]))


def bits(digits):
    return tuple(map(int, digits.replace("-", "")))


def sized(pattern, text, sizes):
    """Whether all bits in a line have a size."""
    return all(len(bits(found)) == sizes for found in re.findall(pattern, text))


def gate_line(line, more):
    """The name of a gate if a line is right, by a pattern for what stands behind the kind for each source."""
    found = re.fullmatch("gate (%s) ([a-z]+)(.*)" % NAME, line)
    if not found or found[2] not in KINDS:
        return None
    ahead, each = more
    return found[1] if re.fullmatch(ahead + (" " + each) * KINDS[found[2]], found[3]) else None


def naive_line(text):
    """The number of the first wrong line, None if all are right, by the words of the document."""
    rows = text.split("\n")
    rest = rows.pop()
    head = rows[0] if rows else ""
    widths = [int(word) for word in re.findall(" ([0-4])(?= |$)", head)]
    kind = head.split(" ")[0]
    if not re.fullmatch("circuit|tangle|wiring|pattern [0-4]|machine [0-4] [0-4]", head):
        return 1
    stages = {"circuit": ["inputs", "gate", "register", "outputs"], "tangle": ["inputs", "gate"], "wiring": ["inputs", "gate", "outputs"],
              "machine": ["state"], "pattern": ["place"]}[kind]
    at, last, seen = 0, "", 0
    for number, line in enumerate(rows[1:], 2):
        word = line.split(" ")[0]
        while at < len(stages) and stages[at] != word:
            if stages[at] in ("inputs", "outputs") or stages[at] in ("state", "place") and not seen:
                return number
            at, last = at + 1, ""
        if at == len(stages):
            return number
        seen += 1
        if word == "inputs" or word == "outputs" and kind == "circuit":
            right = re.fullmatch(word + "( %s)*" % NAME, line)
        elif word == "outputs":
            right = re.fullmatch("outputs( %s %s)*" % (NAME, BITS), line)
        elif word == "gate":
            more = (" " + NUMBER, NAME + " " + BITS) if kind == "wiring" else ("", NAME)
            right = (gate_line(line, more) or "") > last
            last = line.split(" ")[1] if right else ""
        elif word == "register":
            found = re.fullmatch("register (%s) [01] %s" % (NAME, NAME), line)
            right = found and found[1] > last
            last = found[1] if right else ""
        elif word == "state":
            right = re.fullmatch("state( %s %s){%d}" % (NUMBER, BITS, 2 ** widths[0]), line)
            right = right and all(len(bits(each)) == widths[1] for each in line.split(" ")[2::2])
        else:
            right = re.fullmatch("place( %s %s)*" % (BITS, NUMBER), line)
            letters = [each for each in line.split(" ")[1::2]] if right else []
            right = right and all(len(bits(each)) == widths[0] for each in letters) and letters == sorted(set(letters))
        if not right:
            return number
        if word in ("inputs", "outputs"):
            at, last = at + 1, ""
    if rest:
        return len(rows) + 1
    needed = [stage for stage in stages[at:] if stage in ("inputs", "outputs") or stage in ("state", "place") and not seen]
    return len(rows) + 1 if needed else None


def changed_texts(text, seed, many=60):
    """Texts with a line, a word or a sign more, less, otherwise, twice or exchanged."""
    chance = random.Random(seed)
    yield text[:-1]
    yield text + "\n"
    yield text + "x"
    for _ in range(many):
        rows = text.split("\n")[:-1]
        at = chance.randrange(len(rows))
        words = rows[at].split(" ")
        place = chance.randrange(len(words))
        way = chance.randrange(11)
        if way == 0:
            del rows[at]
        elif way == 1:
            rows.insert(at, rows[at])
        elif way == 2:
            other = chance.randrange(len(rows))
            rows[at], rows[other] = rows[other], rows[at]
        elif way == 3:
            rows.insert(at, "")
        else:
            if way == 4:
                del words[place]
            elif way == 5:
                words.insert(place, words[place])
            elif way == 6:
                words.insert(place, chance.choice(["", "x", "0", "1", "01", "-", "and", "gate"]))
            elif way == 7:
                words[place] = chance.choice(["", "x", "0", "1", "00", "5", "21", "-", "not", "low", "9" * 30, "x" * 13, "X", "zz", "1x", "state", "place"])
            elif way == 8:
                words[place] = "0" + words[place]
            elif way == 9:
                words[place] = words[place] + chance.choice(["0", "1", "x", " "])
            else:
                words[place] = words[place][:-1]
            rows[at] = " ".join(words)
        yield "\n".join(rows) + ("\n" if rows and chance.random() < 0.95 else "")


class WrittenTest(Case):
    def test_forms(self):
        self.assertEqual(written(FLIP), "circuit\ninputs x\ngate n xor x q\nregister q 0 n\noutputs n\n")
        self.assertEqual(written(thing=HOLD), "tangle\ninputs r s\ngate m or r p\ngate n or s q\ngate p not n\ngate q not m\n")
        self.assertEqual(written(Machine.late(1)), "machine 1 1\nstate 0 0 1 0\nstate 0 1 1 1\n")
        self.assertEqual(written(SLOW), "wiring\ninputs x\ngate a not 3 x 01\ngate b not 4 a -\noutputs b -\n")
        self.assertEqual(written(RARE), "pattern 1\nplace 0 0 1 1\nplace 0 0\n")
        self.assertEqual(written(Circuit([], [("l", "low", [])])), "circuit\ninputs\ngate l low\noutputs\n")
        self.assertEqual(written(Circuit([])), "circuit\ninputs\noutputs\n")
        self.assertEqual(written(Machine(0, 0, [[(0, ())]])), "machine 0 0\nstate 0 -\n")
        self.assertEqual(written(Pattern(0, [{(): 1}, {}])), "pattern 0\nplace - 1\nplace\n")
        self.assertEqual(written(Tangle([], [("a", "not", ["a"])])), "tangle\ninputs\ngate a not a\n")
        # gates and registers are sorted, sources and outputs stand in their sequence, wide letters have their digits
        many = Circuit(["b", "a"], [("z", "pick", ["q", "b", "a"]), ("c", "high", [])], [("s", 1, "z"), ("q", 0, "s")], ["z", "a", "z"])
        self.assertEqual(written(many), "circuit\ninputs b a\ngate c high\ngate z pick q b a\nregister q 0 s\nregister s 1 z\noutputs z a z\n")
        self.assertEqual(written(Pattern(3, [{(1, 0, 1): 0, (0, 1, 0): 0}])), "pattern 3\nplace 010 0 101 0\n")

    def test_read_back(self):
        for thing in things():
            text = written(thing)
            self.assertEqual([read(text), read(text=text).__class__, written(read(text))], [thing, thing.__class__, text])
            self.assertIsNone(naive_line(text))

    def test_no_things(self):
        game = Game(FLIP, ["x"], RARE)
        for value in ODD + [SHOWN, game, Table([], [], 0), written(FLIP), Circuit, [FLIP], True]:
            self.refuses_value(InvalidThing, value, written, value)


class ReadTest(Case):
    def test_changed_texts(self):
        seen = {}
        for seed, thing in enumerate(things()):
            for text in changed_texts(written(thing), seed):
                line = naive_line(text)
                try:
                    made = read(text)
                except InvalidText as caught:
                    told = caught.line
                else:
                    told = None
                    self.assertEqual(written(made), text)
                self.assertEqual(told or None, line, text)
                sort = "first" if line == 1 else "line" if line else "refused" if told == 0 else "right"
                seen[sort] = seen.get(sort, 0) + 1
        self.assertEqual(sorted(seen), ["first", "line", "refused", "right"])
        self.assertGreater(min(seen.values()), 50)

    def test_no_texts(self):
        for value in ODD + [b"circuit\n", ["circuit\n"], FLIP]:
            if not isinstance(value, str):
                self.refuses(InvalidText, [0], read, value)
                self.refuses(InvalidText, [0], read_word, value)

    def test_first_lines(self):
        for text in ("", "\n", "circuit", "circuits\n", "circuit \n", " circuit\n", "circuit 1\n", "Circuit\n", "x", "machine\n", "machine 1\n",
                     "machine 1 1 1\n", "machine 5 1\n", "machine 1 5\n", "machine 01 1\n", "machine  1 1\n", "machine 1 x\n", "pattern\n", "pattern 5\n",
                     "pattern -1\n", "pattern 1 1\n", "pattern " + "9" * 40 + "\n", "frame\n", "game\n", "table\n", "state 0 -\n", "pattern 1\r\n".replace("\r", " ")):
            self.refuses(InvalidText, [1], read, text)

    def test_lines_that_lack(self):
        for text, line in (("circuit\n", 2), ("circuit\ninputs x\n", 3), ("circuit\ninputs\ngate l low\n", 4), ("circuit\noutputs\n", 2), ("tangle\n", 2),
                           ("machine 1 1\n", 2), ("pattern 0\n", 2), ("wiring\n", 2), ("wiring\ninputs x\ngate g low 1\n", 4),
                           ("circuit\ninputs\noutputs", 3), ("circuit\ninputs", 2), ("pattern 0\nplace", 2), ("pattern 0\nplace\nplace", 3),
                           ("circuit\ninputs\noutputs\noutputs\n", 4), ("circuit\ninputs\noutputs\n\n", 4), ("pattern 0\nplace\n\n", 3),
                           ("tangle\ninputs\ngate a low\noutputs a\n", 4), ("tangle\ninputs\ngate a low\nx", 4), ("pattern 0\n\n", 2)):
            self.refuses(InvalidText, [line], read, text)

    def test_wrong_lines(self):
        whole = "circuit\ninputs x\ngate a not x\ngate b and a x\nregister q 0 b\nregister r 1 q\noutputs b\n"
        self.assertEqual(written(read(whole)), whole)
        for old, new, line in (("inputs x", "inputs  x", 2), ("inputs x", "inputs x ", 2), ("inputs x", "input x", 2), ("inputs x", "inputs X", 2),
                               ("gate a not x", "gate a not x x", 3), ("gate a not x", "gate a not", 3), ("gate a not x", "gate a no x", 3),
                               ("gate a", "gate b", 4), ("gate a", "gate c", 4), ("gate a not x", "gate", 3),
                               ("register q 0 b", "register q 2 b", 5), ("register q 0 b", "register q 00 b", 5), ("register q 0 b", "register q - b", 5),
                               ("register q 0 b", "register q 0", 5), ("register q", "register s", 6), ("register q", "register r", 6),
                               ("outputs b", "outputs 1", 7), ("outputs b", "outputs b  b", 7), ("outputs b", "output b", 7),
                               ("register r 1 q", "gate r not q", 6), ("gate a not x", "gate a not " + "x" * 13, 3)):
            self.refuses(InvalidText, [line], read, whole.replace(old, new))

    def test_right_lines_that_the_class_refuses(self):
        nine = " ".join("abcdefghi")
        gates = "".join("gate g%03d low\n" % k for k in range(201))
        for text in ("circuit\ninputs x x\noutputs\n", "circuit\ninputs x\ngate x low\noutputs\n", "circuit\ninputs\ngate a not a\noutputs\n",
                     "circuit\ninputs\ngate a not b\noutputs\n", "circuit\ninputs\noutputs x\n", "circuit\ninputs %s\noutputs\n" % nine,
                     "circuit\ninputs x\noutputs x x x x x x x x x\n", "circuit\ninputs\n%soutputs\n" % gates, "circuit\ninputs\ngate a low\nregister a 0 a\noutputs\n",
                     "tangle\ninputs\n", "tangle\ninputs x\ngate a not b\n", "tangle\ninputs a b c d e\ngate x low\n", "tangle\ninputs x x\ngate a low\n",
                     "machine 0 0\nstate 1 -\n", "machine 0 0\nstate %s -\n" % ("9" * 5000), "machine 0 0\n" + "state 0 -\n" * 65,
                     "wiring\ninputs\ngate g low 1\noutputs g -\n", "wiring\ninputs x\noutputs x -\n", "wiring\ninputs x\ngate g low 1\noutputs\n",
                     "wiring\ninputs x\ngate g low 0\noutputs g -\n", "wiring\ninputs x\ngate g low 21\noutputs g -\n",
                     "wiring\ninputs x\ngate g low %s\noutputs g -\n" % ("9" * 20), "wiring\ninputs x\ngate g not 1 g -\noutputs g -\n",
                     "wiring\ninputs x\ngate g low 1\noutputs g %s\n" % ("0" * 25), "wiring\ninputs x\ngate x low 1\noutputs x -\n",
                     "wiring\ninputs x\ngate g low 1\noutputs h -\n", "pattern 0\nplace - 1\n", "pattern 1\nplace 0 %s\n" % ("1" * 30), "pattern 0\n" + "place\n" * 61):
            self.assertIsNone(naive_line(text))
            self.refuses(InvalidText, [0], read, text)
        # with wrong lines behind, these are told
        self.refuses(InvalidText, [4], read, "circuit\ninputs x x\noutputs\nx\n")

    def test_numbers_and_bits(self):
        for text, line in (("machine 1 1\nstate 0 0 0 2\n", 2), ("machine 1 1\nstate 0 0 00 0\n", 2), ("machine 1 1\nstate 0 - 0 0\n", 2),
                           ("machine 1 1\nstate 0 0\n", 2), ("machine 1 1\nstate 0 0 0 0 0 0\n", 2), ("machine 1 0\nstate 0 - 0 0\n", 2),
                           ("machine 1 1\nstate 0 00 0 0\n", 2), ("machine 1 1\nstate -1 0 0 0\n", 2), ("pattern 1\nplace 1 0 0 0\n", 2),
                           ("pattern 1\nplace 0 0 0 0\n", 2), ("pattern 1\nplace 0\n", 2), ("pattern 1\nplace 0 00\n", 2), ("pattern 1\nplace - 0\n", 2),
                           ("pattern 0\nplace - 0 - 0\n", 2), ("pattern 2\nplace 0 0\n", 2), ("wiring\ninputs x\ngate g not 01 x -\noutputs g -\n", 3),
                           ("wiring\ninputs x\ngate g not 1 x\noutputs g -\n", 3), ("wiring\ninputs x\ngate g not 1 x --\noutputs g -\n", 3),
                           ("wiring\ninputs x\ngate g not 1 x 2\noutputs g -\n", 3), ("wiring\ninputs x\ngate g not x -\noutputs g -\n", 3),
                           ("wiring\ninputs x\ngate g not 1 x -\noutputs g\n", 4), ("wiring\ninputs x\ngate g not 1 x -\noutputs g - g\n", 4)):
            self.assertEqual(naive_line(text), line)
            self.refuses(InvalidText, [line], read, text)


class WordTest(Case):
    def test_written_and_read_back(self):
        for width in range(4):
            for word in words_of(width, 2):
                text = written_word(word)
                self.assertEqual([read_word(text), written_word(tuple(word))], [word, text])
                self.assertIs(type(read_word(text)), list)
        self.assertEqual([written_word(word=[(1,), (0,)]), read_word(text="01 10"), written_word([]), read_word(""), read_word("- -"), written_word([()])],
                         ["1 0", [(0, 1), (1, 0)], "", [], [(), ()], "-"])
        self.assertEqual([written_word([(1,) * 8] * 2), read_word("00000001")], ["11111111 11111111", [(0,) * 7 + (1,)]])

    def test_wrong_words(self):
        for value in ODD + [[(0,) * 9], [(0,), (0, 1)], [()] + [(0,)], [(2,)], [(True,)], [[0]], [(0,), None], {(0,): 1}, "0", b"0", (0,), [0]]:
            if value != [] and value != () and value != ((),):
                self.refuses_value(InvalidWord, value, written_word, value)
        for text in (" ", "0 ", " 0", "0  1", "0 01", "- 0", "2", "x", "0\n", "\n", "--", "0,1", "000000000", "0 1 2", "-0", "[]"):
            self.refuses(InvalidText, [0], read_word, text)
