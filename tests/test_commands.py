"""The commands of point [100] by their words, wirewords/commands.py."""

from tests.helping import ODD, Case
from wirewords.bench import Bench
from wirewords.bits import KINDS
from wirewords.commands import is_change, words_of
from wirewords.refusals import InvalidCommand

HOWS = {"copy": 1, "beside": 2, "behind": 2, "pair": 2, "chain": 2, "machine": 1, "circuit": 1, "least": 1, "both": 2, "either": 2, "weakest": 2, "strongest": 2}
RIGHT = {
    "gate": ["gate new thing g low", "gate a a a not a", "gate new thing g pick x y z"] + ["gate n t g " + kind + " s" * many for kind, many in KINDS.items()],
    "first": ["first new thing q 0", "first a a a 1"],
    "go": ["go new thing g", "go undo redo make"],
    "make": ["make new " + how + " t" * many for how, many in HOWS.items()],
    "drop": ["drop name"], "renew": ["renew note"], "look": ["look note"], "told": ["told note"],
    "answer": ["answer thing", "answer thing 0", "answer thing - -", "answer t 01 1 -", "answer t " + "01" * 20],
    "undo": ["undo"], "redo": ["redo"],
}
WRONG = ODD + [
    "undo ", " undo", "undo undo", "redo x", "undo\n", "Undo", "do", "gate", "gate new thing g", "gate new thing g not", "gate new thing g not x y", "gate new thing g no x",
    "gate new thing g low x", "gate new thing  g low", "gate New thing g low", "gate new thing 1 low", "gate new thing g not X", "gate new thing g and x", "gate new thing low",
    "gate new thing g input", "gate new thing g KINDS", "first", "first new thing q", "first new thing q 2", "first new thing q 00", "first new thing q -", "first new thing q 1 1",
    "first new thing 1 q", "first new thing Q 1", "first new 1", "first 0", "go", "go new thing", "go new thing g h", "go new thing G", "go new", "make", "make new", "make new copy",
    "make new copies thing", "make new copy one two", "make new beside one", "make new beside one two three", "make new copy 1", "make N copy x", "make copy x", "make new least",
    "make new pair a", "make new weakest a", "make new both a  b", "drop", "drop a b", "drop 1", "drop A", "drop ", "renew", "renew a b", "renew " + "x" * 13, "look", "look a b", "look -",
    "told", "told a b", "told _", "answer", "answer 1", "answer thing 2", "answer thing x", "answer thing 0 ", "answer thing  0", "answer thing --", "answer thing 0,1", "answer -",
    "put thing", "note safe", "log", "len", "circuit", "make new type thing", "gate\nnew thing g low", b"undo", ["undo"], ("undo",),
]


class CommandsTest(Case):
    def test_right_ones(self):
        for head, rows in RIGHT.items():
            for row in rows:
                self.assertEqual([words_of(row), is_change(row)], [row.split(" "), head in ("gate", "first", "go", "make", "drop", "renew")])
        self.assertEqual([words_of(command="look safe"), is_change(command="drop x"), is_change("answer x 1")], [["look", "safe"], True, False])
        told = words_of("undo")
        told.append("x")
        self.assertEqual(words_of("undo"), ["undo"])

    def test_wrong_ones(self):
        bench = Bench()
        for value in WRONG:
            for call in (words_of, is_change, bench.do):
                self.refuses_value(InvalidCommand, value, call, value)

    def test_each_word_more_less_and_otherwise(self):
        for rows in RIGHT.values():
            for row in rows:
                words = row.split(" ")
                for at in range(len(words)):
                    for other in ("", "X", "1x", "%s " % words[at]):
                        self.refuses(InvalidCommand, [" ".join(words[:at] + [other] + words[at + 1:])], words_of, " ".join(words[:at] + [other] + words[at + 1:]))
                if words[0] != "answer":
                    for more in (row + " x", row + " ", row + " 0"):
                        self.refuses(InvalidCommand, [more], words_of, more)
                    less = " ".join(words[:-1])
                    self.refuses(InvalidCommand, [less], words_of, less)
