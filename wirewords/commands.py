"""Commands: lines of words, and what sorts of words they have."""

from wirewords.bits import KINDS, is_kind, is_name
from wirewords.refusals import InvalidCommand
from wirewords.texts import are_bits

CHANGES = ("gate", "first", "go", "make", "drop", "renew")

# For each HOW the kinds of the things it is done with; where any thing will do, none.
HOWS = {
    "beside": (("circuit",), ("circuit",)),
    "behind": (("circuit",), ("circuit",)),
    "both": (("pattern",), ("pattern",)),
    "chain": (("machine",), ("machine",)),
    "circuit": (("wiring",),),
    "copy": ((),),
    "either": (("pattern",), ("pattern",)),
    "least": (("machine", "pattern"),),
    "machine": (("circuit",),),
    "pair": (("machine",), ("machine",)),
    "strongest": (("circuit",), ("pattern",)),
    "weakest": (("circuit",), ("pattern",)),
}


def are_names(words, many):
    """Whether words are so many names."""
    return len(words) == many and all([is_name(word) for word in words])


def is_gate_command(words):
    """Whether the words behind `gate` are right."""
    if len(words) < 4 or not are_names(words[:3], 3) or not is_kind(words[3]):
        return False
    return are_names(words[4:], KINDS[words[3]])


def is_make_command(words):
    """Whether the words behind `make` are right."""
    if len(words) < 2 or not is_name(words[0]) or words[1] not in HOWS:
        return False
    return are_names(words[2:], len(HOWS[words[1]]))


def are_command_words(words):
    """Whether words make a command."""
    head, rest = words[0], words[1:]
    if head == "gate":
        return is_gate_command(rest)
    if head == "first":
        return are_names(rest[:-1], 3) and rest[-1] in ("0", "1")
    if head == "go":
        return are_names(rest, 3)
    if head == "make":
        return is_make_command(rest)
    if head in ("drop", "renew", "look", "told"):
        return are_names(rest, 1)
    if head == "answer":
        return are_names(rest[:1], 1) and all([are_bits(word) for word in rest[1:]])
    return head in ("undo", "redo") and len(rest) == 0


def words_of(command):
    """The words of a command."""
    if not isinstance(command, str):
        raise InvalidCommand(command)
    words = command.split(" ")
    if not are_command_words(words):
        raise InvalidCommand(command)
    return words


def is_change(command):
    """Whether a command is a change."""
    return words_of(command)[0] in CHANGES


def wanted_by(words):
    """The tuples (name, kinds) of the things that a command wants; without kinds any thing will do."""
    head = words[0]
    if head in ("gate", "first"):
        return [(words[2], ("circuit",))]
    if head == "go":
        return [(words[2], ("wiring",))]
    if head == "make":
        return [(name, kinds) for name, kinds in zip(words[3:], HOWS[words[2]])]
    return [(words[1], ("circuit", "machine", "wiring"))] if head == "answer" else []
