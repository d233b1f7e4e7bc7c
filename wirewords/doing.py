"""What commands make of things."""

from wirewords.alike import least
from wirewords.made import behind, beside, with_first, with_gate
from wirewords.maps import weakest
from wirewords.runs import answer
from wirewords.states import chained, machine_of, paired
from wirewords.strongest import strongest
from wirewords.texts import bits_of_word, written_word
from wirewords.things import kind_of
from wirewords.wirings import answer_of, circuit_of, gone


def made_by(how, things):
    """The thing that is made of things by the word HOW."""
    if how == "copy":
        return things[0]
    if how == "least":
        return least(things[0]) if kind_of(things[0]) == "machine" else things[0].least()
    if how == "machine":
        return machine_of(things[0])
    if how == "circuit":
        return circuit_of(things[0])
    one, other = things
    if how == "beside":
        return beside(one, other)
    if how == "behind":
        return behind(one, other)
    if how == "pair":
        return paired(one, other)
    if how == "chain":
        return chained(one, other)
    if how == "both":
        return one & other
    if how == "either":
        return one | other
    return weakest(one, other) if how == "weakest" else strongest(one, other)


def thing_by(words, things):
    """The thing that a command puts under a new name."""
    if words[0] == "make":
        return made_by(words[2], things)
    if words[0] == "gate":
        return with_gate(things[0], words[3], words[4], words[5:])
    if words[0] == "first":
        return with_first(things[0], words[3], int(words[4]))
    return gone(things[0], words[3])


def answer_by(words, thing):
    """What a thing answers to the word that a command tells."""
    word = [bits_of_word(bits) for bits in words[2:]]
    kind = kind_of(thing)
    if kind == "circuit":
        return written_word(answer(thing, word))
    return written_word(thing.answer(word) if kind == "machine" else answer_of(thing, word))
