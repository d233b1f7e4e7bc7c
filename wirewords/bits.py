"""Integers, bits, names, letters and words, and the kinds of gates."""

from wirewords.errors import InvalidBits, InvalidKind, InvalidWidth

KINDS = {"and": 2, "high": 0, "low": 0, "not": 1, "or": 2, "pick": 3, "xor": 2}

# What each kind makes of its sources' bits, these read as one number.
MADE = {
    "and": (0, 0, 0, 1),
    "high": (1,),
    "low": (0,),
    "not": (1, 0),
    "or": (0, 1, 1, 1),
    "pick": (0, 1, 0, 1, 0, 0, 1, 1),
    "xor": (0, 1, 1, 0),
}

SMALL = "abcdefghijklmnopqrstuvwxyz"
DIGITS = "0123456789"
LONGEST_NAME = 12
GREATEST_WIDTH = 8


def is_integer(value):
    """Whether any value is an integer that is no bool."""
    return isinstance(value, int) and not isinstance(value, bool)


def is_count(value):
    """Whether any value is an integer of at least 0."""
    return is_integer(value) and value >= 0


def is_bit(value):
    """Whether any value is 0 or 1, and no bool."""
    return is_integer(value) and 0 <= value <= 1


def is_name(value):
    """Whether any value is a string of one to twelve signs, the first one a small letter."""
    if not isinstance(value, str) or not 1 <= len(value) <= LONGEST_NAME:
        return False
    return value[0] in SMALL and all([sign in SMALL or sign in DIGITS for sign in value])


def is_list(value):
    """Whether any value may stand where a list is asked for."""
    return isinstance(value, (list, tuple))


def is_letter(value, width):
    """Whether any value is a tuple of so many bits."""
    return isinstance(value, tuple) and len(value) == width and all([is_bit(bit) for bit in value])


def is_word(value, width):
    """Whether any value is a list of letters of a width."""
    return is_list(value) and all([is_letter(letter, width) for letter in value])


def is_kind(value):
    """Whether any value is a kind of gates."""
    return isinstance(value, str) and value in KINDS


def all_bits(width):
    """The sorted list of all tuples of so many bits."""
    rows = [()]
    for _ in range(width):
        rows = [row + (bit,) for row in rows for bit in (0, 1)]
    return rows


def letters(width):
    """The sorted list of all letters of a width from 0 to 8."""
    if not is_count(width) or width > GREATEST_WIDTH:
        raise InvalidWidth(width)
    return all_bits(width)


def number_of(bits):
    """Bits read as one number; so the place of a letter among all of its width, sorted."""
    at = 0
    for bit in bits:
        at = 2 * at + bit
    return at


def bit_of(kind, bits):
    """What a kind makes of bits that are known to be right."""
    return MADE[kind][number_of(bits)]


def says(kind, bits):
    """What a kind of gate makes of its sources' bits."""
    if not is_kind(kind):
        raise InvalidKind(kind)
    if not is_list(bits) or not is_letter(tuple(bits), KINDS[kind]):
        raise InvalidBits(bits)
    return bit_of(kind, bits)
