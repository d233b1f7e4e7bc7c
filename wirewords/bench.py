"""A bench: things and notes under names, changes that are taken back and done again, and commands."""

from wirewords.bits import is_list, is_name
from wirewords.claims import check_claim_word, judged, kinds_of_parts, proved, truth_of
from wirewords.commands import wanted_by, words_of
from wirewords.doing import answer_by, thing_by
from wirewords.errors import InvalidName, LimitError, MissingError, StateError, WireError
from wirewords.refusals import (
    CommandFailed,
    InvalidClaim,
    InvalidParts,
    InvalidThing,
    Lost,
    NothingToRedo,
    NothingToUndo,
    TakenName,
    UnknownName,
    WrongThing,
)
from wirewords.things import copied, kind_of


class Bench:
    """Things and notes, which change, and what can be taken back and done again.

    All that changes is one tuple: the dict of the things; that of the notes, tuples (word, parts, paper); and,
    twice, tuples of changes (line, things, notes) with what stood on the other side of each: those that can be
    taken back, then those that can be done again. What is in it never changes, so that to keep it is enough.
    """

    def __init__(self):
        self._now = ({}, {}, (), ())

    def __getitem__(self, name):
        if not isinstance(name, str) or name not in self._now[0]:
            raise UnknownName(name)
        return self._now[0][name]

    def __setitem__(self, name, thing):
        things, notes = self._now[:2]
        if not is_name(name):
            raise InvalidName(name)
        if name in notes:
            raise TakenName(name)
        if kind_of(thing) == "":
            raise InvalidThing(thing)
        self.change(f"put {name}", {**things, name: thing}, notes)

    def __contains__(self, value):
        return isinstance(value, str) and (value in self._now[0] or value in self._now[1])

    def __len__(self):
        return len(self._now[2])

    def __iter__(self):
        raise TypeError("a bench is not iterated over")

    def change(self, line, things, notes):
        """Make a change, behind which these things and notes are there."""
        old_things, old_notes, done, _ = self._now
        self._now = (things, notes, done + ((line, old_things, old_notes),), ())

    def names(self):
        """The names of the things, sorted."""
        return sorted(self._now[0])

    def notes(self):
        """The names of the notes, sorted."""
        return sorted(self._now[1])

    def note(self, name, word, parts):
        """Put in a note of a claim or its contrary, whichever is true."""
        things = self._now[0]
        if not is_name(name):
            raise InvalidName(name)
        if name in things:
            raise TakenName(name)
        check_claim_word(word)
        check_parts(word, parts, things)
        claim = claim_about(word, parts, things)
        proof = proved(claim)
        if proof is None:
            raise InvalidClaim(claim)
        return self.told(f"note {name}", name, parts, proof)

    def told(self, line, name, parts, proof):
        """Put in a note with a word and a paper, and tell the word."""
        things, notes = self._now[:2]
        word, paper = proof
        self.change(line, things, {**notes, name: (word, copied(tuple(parts)), paper)})
        return word

    def kept(self, name):
        """The word, the parts and the paper of a note."""
        if not isinstance(name, str) or name not in self._now[1]:
            raise UnknownName(name)
        return self._now[1][name]

    def claim(self, name):
        """The claim of a note, things by their names."""
        word, parts, _ = self.kept(name)
        return (word,) + copied(parts)

    def paper(self, name):
        """The paper of a note."""
        return copied(self.kept(name)[2])

    def look(self, name):
        """Whether a note holds, is stale or is lost."""
        word, parts, paper = self.kept(name)
        claim = claim_about(word, parts, self._now[0])
        if truth_of(claim) is None:
            return "lost"
        return "holds" if judged(claim, paper) else "stale"

    def renew(self, name):
        """Tell a note anew of the things as they are."""
        word, parts, _ = self.kept(name)
        proof = proved(claim_about(word, parts, self._now[0]))
        if proof is None:
            raise Lost(name)
        return self.told(f"renew {name}", name, parts, proof)

    def drop(self, name):
        """Drop a thing or a note."""
        if name not in self:
            raise UnknownName(name)
        things, notes = self._now[:2]
        left = {each: things[each] for each in things if each != name}
        self.change(f"drop {name}", left, {each: notes[each] for each in notes if each != name})

    def undo(self):
        """Take the last change back."""
        things, notes, done, undone = self._now
        if not done:
            raise NothingToUndo()
        line, old_things, old_notes = done[-1]
        self._now = (old_things, old_notes, done[:-1], undone + ((line, things, notes),))
        return line

    def redo(self):
        """Do the change again that was taken back last."""
        things, notes, done, undone = self._now
        if not undone:
            raise NothingToRedo()
        line, new_things, new_notes = undone[-1]
        self._now = (new_things, new_notes, done + ((line, things, notes),), undone[:-1])
        return line

    def log(self):
        """The lines of the changes that were made and not taken back."""
        return [line for line, _, _ in self._now[2]]

    def do(self, command):
        """The answer to a command."""
        words = words_of(command)
        if words[0] in ("undo", "redo"):
            return self.undo() if words[0] == "undo" else self.redo()
        if words[0] in ("drop", "renew", "look", "told"):
            return self.do_by_name(words[0], words[1])
        things = self.wanted(words)
        if words[0] == "answer":
            return answer_by(words, things[0])
        if words[1] in self._now[1]:
            raise TakenName(words[1])
        self.change(command, {**self._now[0], words[1]: thing_by(words, things)}, self._now[1])
        return "done"

    def do_by_name(self, head, name):
        """The answer to a command of one name."""
        if head == "renew":
            return self.renew(name)
        if head == "look":
            return self.look(name)
        if head == "told":
            return self.kept(name)[0]
        self.drop(name)
        return "done"

    def wanted(self, words):
        """The things that a command wants."""
        things = self._now[0]
        pairs = wanted_by(words)
        for name, _ in pairs:
            if name not in things:
                raise UnknownName(name)
        for name, kinds in pairs:
            if kinds and kind_of(things[name]) not in kinds:
                raise WrongThing(name)
        return [things[name] for name, _ in pairs]

    def do_all(self, *commands):
        """The answers to commands; if one fails, none has an effect."""
        held = self._now
        told = []
        for at, command in enumerate(commands):
            try:
                told.append(self.do(command))
            except (WireError, MissingError, StateError, LimitError) as error:
                self._now = held
                raise CommandFailed(at) from error
        return told


def check_parts(word, parts, things):
    """Raise InvalidParts unless these are as many parts as a word wants, with names of things where things stand."""
    kinds = kinds_of_parts(word)
    if not is_list(parts) or len(parts) != len(kinds):
        raise InvalidParts(None)
    for at, (kind, part) in enumerate(zip(kinds, parts)):
        if kind != "" and (not isinstance(part, str) or part not in things):
            raise InvalidParts(at)


def claim_about(word, parts, things):
    """The tuple of a word and parts, things in the place of their names; None if one has no thing."""
    kinds = kinds_of_parts(word)
    if not all([kind == "" or part in things for kind, part in zip(kinds, parts)]):
        return None
    return (word,) + tuple([part if kind == "" else things[part] for kind, part in zip(kinds, parts)])


def tried(bench, action):
    """What a function returns for a bench, which is behind it as it was ahead."""
    held = bench._now
    try:
        return action(bench)
    finally:
        bench._now = held
