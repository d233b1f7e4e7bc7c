"""Patterns: places from which some letters lead on; and which of them is within which."""

from wirewords.bits import all_bits, is_count, is_letter, is_list, is_word
from wirewords.checks import check_number, check_small_width
from wirewords.errors import InvalidGoes, InvalidPattern, InvalidPlace, InvalidWord, OtherWidth, TooMany
from wirewords.walks import is_closed, next_classes, numbered, unlike_rows, walked

MOST_PLACES = 60


def are_leads(value, width, places):
    """Whether any value is a dict from letters of a width to places."""
    if not isinstance(value, dict) or not all([is_letter(letter, width) for letter in value]):
        return False
    return all([is_count(value[letter]) and value[letter] < places for letter in value])


def check_goes(goes, width):
    """Raise InvalidGoes unless this is a list of dicts from letters to places."""
    if not is_list(goes) or len(goes) == 0:
        raise InvalidGoes(None)
    for at, leads in enumerate(goes):
        if not are_leads(leads, width, len(goes)):
            raise InvalidGoes(at)


class Pattern:
    """A width, and for each place the letters that lead on, each to a place; it never changes."""

    def __init__(self, width, goes):
        check_small_width(width)
        check_goes(goes, width)
        check_number("places", goes, MOST_PLACES)
        self._width = width
        self._goes = tuple([{letter: leads[letter] for letter in sorted(leads)} for leads in goes])

    @staticmethod
    def any_of(width):
        """The pattern of one place that lets all words."""
        check_small_width(width)
        return Pattern(width, [{letter: 0 for letter in all_bits(width)}])

    @staticmethod
    def of_word(width, word):
        """The least pattern that lets just a word and its beginnings."""
        check_small_width(width)
        check_fitting_width(word, width)
        return Pattern(width, [{letter: at + 1} for at, letter in enumerate(word)] + [{}])

    @property
    def width(self):
        """The width of the letters."""
        return self._width

    def goes(self):
        """For each place the dict from the letters that lead on to places."""
        return [{letter: leads[letter] for letter in leads} for leads in self._goes]

    def leads(self, place):
        """The dict from the letters that lead on from a place to places."""
        if not is_place(self, place):
            raise InvalidPlace(place)
        return {letter: self._goes[place][letter] for letter in self._goes[place]}

    def place_of(self, word):
        """Where a word leads, None if out."""
        check_fitting_width(word, self._width)
        place = 0
        for letter in word:
            if letter not in self._goes[place]:
                return None
            place = self._goes[place][letter]
        return place

    def least(self):
        """The pattern with the fewest places that lets the same words."""
        return least_pattern(self._width, self._goes)

    def __and__(self, other):
        check_right(self, other)
        return least_pattern(self._width, paired_goes(self, other, False))

    def __or__(self, other):
        check_right(self, other)
        return least_pattern(self._width, paired_goes(self, other, True))

    def __len__(self):
        return len(self._goes)

    def __contains__(self, value):
        return is_word(value, self._width) and self.place_of(value) is not None

    def __eq__(self, other):
        return isinstance(other, Pattern) and self._width == other._width and self._goes == other._goes

    def __repr__(self):
        return f"Pattern({self._width!r}, {self.goes()!r})"


def is_place(pattern, value):
    """Whether any value is a place of a pattern."""
    return is_count(value) and value < len(pattern)


def check_fitting_width(word, width):
    """Raise InvalidWord unless this is a word of a width."""
    if not is_word(word, width):
        raise InvalidWord(word)


def check_same_width(one, other):
    """Raise OtherWidth unless both patterns have one width."""
    if one.width != other.width:
        raise OtherWidth(one.width, other.width)


def check_right(one, other):
    """Raise the errors of what stands on the right of an operator."""
    if not isinstance(other, Pattern):
        raise InvalidPattern(other)
    check_same_width(one, other)


def goal_of(goes, place, letter):
    """Where a letter leads from a place, or from None; None if out."""
    return None if place is None else goes[place].get(letter)


def paired_goes(one, other, either):
    """Where letters lead from pairs of places, as they are met by words that fit both, or one of both."""
    letters, ours, theirs = all_bits(one.width), one.goes(), other.goes()
    met = [(0, 0)]
    numbers = {(0, 0): 0}
    goes = []
    while len(goes) < len(met):
        place, twin = met[len(goes)]
        leads = {}
        for letter in letters:
            pair = (goal_of(ours, place, letter), goal_of(theirs, twin, letter))
            if pair == (None, None) or None in pair and not either:
                continue
            if pair not in numbers:
                numbers[pair] = len(met)
                met.append(pair)
            leads[letter] = numbers[pair]
        goes.append(leads)
    return goes


def leads_of(letters, row):
    """The dict from the letters that lead on in a row to places."""
    return {letter: goal for letter, (goal, _) in zip(letters, row) if goal is not None}


def least_pattern(width, goes):
    """The least pattern that lets what places with such leads let."""
    letters = all_bits(width)
    whole = [[(leads.get(letter), None) for letter in letters] for leads in goes]
    rows = numbered(whole, list(range(len(whole))), 0)
    classes = [0 for _ in rows]
    further = next_classes(rows, classes)
    while further != classes:
        classes = further
        further = next_classes(rows, classes)
        # All places are come to, so the least pattern has no fewer than there are classes by now.
        if max(further) >= MOST_PLACES:
            raise TooMany("places", MOST_PLACES)
    return Pattern(width, [leads_of(letters, row) for row in numbered(rows, classes, 0)])


def within_moves(one, other):
    """The moves of pairs of places by what leads on in the one, out where it leads out in the other."""
    ours, theirs = one.goes(), other.goes()

    def moves(pair):
        told = []
        for letter in ours[pair[0]]:
            goal = theirs[pair[1]].get(letter)
            told.append((letter, None if goal is None else (ours[pair[0]][letter], goal)))
        return told

    return moves


def word_alone(one, other):
    """The least word that fits the one pattern and not the other one; None."""
    check_same_width(one, other)
    return walked((0, 0), within_moves(one, other))[1]


def lies_within(one, other):
    """Whether each word that fits the one pattern fits the other one."""
    return word_alone(one, other) is None


def fit_alike(one, other):
    """Whether the same words fit two patterns."""
    return lies_within(one, other) and lies_within(other, one)


def within_table(one, other):
    """The within table of all tuples that are come to, sorted; None."""
    check_same_width(one, other)
    came, word = walked((0, 0), within_moves(one, other))
    return sorted(came) if word is None else None


def is_within_table(one, other, value):
    """Whether any value is a within table of two patterns."""
    check_same_width(one, other)

    def is_pair(row):
        return isinstance(row, tuple) and len(row) == 2 and is_place(one, row[0]) and is_place(other, row[1])

    return is_closed(unlike_rows(value, is_pair), (0, 0), within_moves(one, other))
