"""Claims about things, their contraries, and papers of them."""

from wirewords.errors import LimitError, MissingError, StateError, WireError
from wirewords.papers import line_of
from wirewords.refusals import InvalidClaim
from wirewords.things import copied, kind_of

CONTRARY = {
    "agrees": "differs",
    "alike": "apart",
    "covered": "bare",
    "enough": "lacking",
    "equal": "parted",
    "found": "stuck",
    "hidden": "shown",
    "keeps": "breaks",
    "lasts": "ends",
    "needs": "fewer",
    "onward": "falls",
    "planned": "spoiled",
    "reached": "barred",
    "resets": "splits",
    "settles": "swings",
    "within": "beyond",
    "apart": "alike",
    "bare": "covered",
    "barred": "reached",
    "beyond": "within",
    "breaks": "keeps",
    "differs": "agrees",
    "ends": "lasts",
    "falls": "onward",
    "fewer": "needs",
    "lacking": "enough",
    "parted": "equal",
    "shown": "hidden",
    "splits": "resets",
    "spoiled": "planned",
    "stuck": "found",
    "swings": "settles",
}

# For each line of the table, under its first word, the kinds of the things among the parts.
PARTS = {
    "agrees": ("circuit", "circuit", "pattern"),
    "alike": ("machine", "machine"),
    "covered": ("circuit", "", "", ""),
    "enough": ("frame", "circuit", ""),
    "equal": ("circuit", "", ""),
    "found": ("machine", ""),
    "hidden": ("circuit", "", ""),
    "keeps": ("circuit", "pattern", "pattern"),
    "lasts": ("pattern",),
    "needs": ("machine", ""),
    "onward": ("circuit", "pattern", "pattern"),
    "planned": ("game",),
    "reached": ("wiring", ""),
    "resets": ("machine",),
    "settles": ("tangle", "", ""),
    "within": ("pattern", "pattern"),
}


def first_word(word):
    """The first word of the line of a word."""
    return word if word in PARTS else CONTRARY[word]


def check_claim_word(word):
    """Raise InvalidClaim unless this is a word of the table."""
    if not isinstance(word, str) or word not in CONTRARY:
        raise InvalidClaim(word)


def kinds_of_parts(word):
    """The kinds of the things among the parts, the empty string where none stands."""
    return PARTS[first_word(word)]


def things_at(word):
    """The positions among the parts at which things stand."""
    check_claim_word(word)
    return tuple([at for at, kind in enumerate(kinds_of_parts(word)) if kind != ""])


def has_parts(value):
    """Whether any value is a tuple of a word of the table and as many parts, its things of the right kinds."""
    if not isinstance(value, tuple) or len(value) == 0:
        return False
    if not isinstance(value[0], str) or value[0] not in CONTRARY:
        return False
    kinds = kinds_of_parts(value[0])
    if len(value) != len(kinds) + 1:
        return False
    return all([kind == "" or kind_of(part) == kind for kind, part in zip(kinds, value[1:])])


def truth_of(value):
    """Whether the first word of the line of any value is true of its parts; None if that is no claim."""
    if not has_parts(value):
        return None
    is_so = line_of(first_word(value[0]))[0]
    parts = value[1:]
    try:
        return is_so(*parts)
    except (WireError, MissingError, StateError, LimitError):
        return None


def is_claim(value):
    """Whether any value is a claim."""
    return truth_of(value) is not None


def proved(value):
    """The word that is true of the line of any value that is a claim, and a paper of it; None if it is none."""
    truth = truth_of(value)
    if truth is None:
        return None
    first = first_word(value[0])
    word = first if truth else CONTRARY[first]
    told = line_of(first)[1 if truth else 2]
    parts = value[1:]
    return word, told(*parts)


def judged(claim, value):
    """Whether any value is a paper of what is known to be a claim."""
    judge = line_of(first_word(claim[0]))[3 if claim[0] in PARTS else 4]
    parts = claim[1:]
    return judge(*parts, value)


def check_claim(claim):
    """Raise InvalidClaim unless this is a claim."""
    if not is_claim(claim):
        raise InvalidClaim(claim)


def is_true(claim):
    """Whether a claim is true."""
    truth = truth_of(claim)
    if truth is None:
        raise InvalidClaim(claim)
    return truth == (claim[0] in PARTS)


def contrary(claim):
    """The claim that is true if a claim is not."""
    check_claim(claim)
    return (CONTRARY[claim[0]],) + copied(claim[1:])


def paper_of(claim):
    """A paper of a claim; None if it is not true."""
    proof = proved(claim)
    if proof is None:
        raise InvalidClaim(claim)
    word, paper = proof
    return paper if word == claim[0] else None


def is_paper(claim, value):
    """Whether any value is a paper of a claim."""
    check_claim(claim)
    return judged(claim, value)
