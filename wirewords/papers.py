"""What the lines of the table of claims rest on: whether a claim is true, its papers, and what judges them.

All functions here take the parts of a claim, in their sequence; those that judge take any value behind these.
"""

from wirewords.alike import (
    are_alike,
    check_need,
    is_need_paper,
    is_parting,
    is_relation,
    least,
    need_paper,
    needed,
    parting,
    relation,
)
from wirewords.bits import is_letter, is_word
from wirewords.boxes import alike_within, is_relation_within, parting_within, relation_within
from wirewords.errors import TooMany
from wirewords.faults import hiding, is_hiding, showing, shows_at
from wirewords.feeds import choice, conflict, is_choice, is_conflict, is_enough
from wirewords.gates import are_equal, is_table_of, parting_of, table_of
from wirewords.hands import is_plan, is_spoiler, we_keep, whole_plan, whole_spoiler
from wirewords.lags import greatest_lags, is_lags, is_ring, reaches, ring
from wirewords.lasting import can_last, end_ranks, is_end_ranks, is_lasting_places, lasting_places
from wirewords.machines import Machine
from wirewords.maps import breaking_word, is_breaking_word, is_kept_table, keeps, kept_table
from wirewords.menus import check_against, fewest_tests, is_cover, is_tree_against, tree_against
from wirewords.patterns import is_within_table, lies_within, within_table, word_alone
from wirewords.resets import any_reset, apart, is_apart, is_reset
from wirewords.rings import further_table, further_word, is_further_table, is_further_word, keeps_further
from wirewords.runs import answer, told
from wirewords.settling import are_two_rests, is_ranks, is_swing, ranks, settles, swing, two_rests
from wirewords.trees import depth, is_stuck, is_tree, stuck, tree


def equal_table(circuit, wire, second):
    """The table of both of two equal wires."""
    return table_of(circuit, wire)


def is_equal_table(circuit, wire, second, value):
    """Whether any value is a table of both wires; one by which they have too many rows is none."""
    try:
        return is_table_of(circuit, wire, value) and is_table_of(circuit, second, value)
    except TooMany:
        return False


def is_parting_of(circuit, wire, second, value):
    """Whether any value is a tuple (state, letter) at which two wires say unlike bits."""
    if not isinstance(value, tuple) or len(value) != 2:
        return False
    if not is_letter(value[0], len(circuit.first())) or not is_letter(value[1], len(circuit.inputs())):
        return False
    state, letter = value
    return told(circuit, wire, [letter], state) != told(circuit, second, [letter], state)


def unrest(tangle, letter, standing):
    """A swing or two rests."""
    found = swing(tangle, letter, standing)
    return two_rests(tangle, letter, standing) if found is None else found


def is_unrest(tangle, letter, standing, value):
    """Whether any value is a swing or two rests."""
    return is_swing(tangle, letter, standing, value) or are_two_rests(tangle, letter, standing, value)


def needs_so_many(machine, number):
    """Whether each machine that is alike to one has at least so many states."""
    check_need(number)
    return needed(machine) >= number


def fewer_states(machine, number):
    """An alike machine with fewer states than a number."""
    return least(machine)


def is_fewer_states(machine, number, value):
    """Whether any value is an alike machine with fewer states than a number."""
    if not isinstance(value, Machine) or len(value) >= number:
        return False
    if value.width != machine.width or value.out_width != machine.out_width:
        return False
    return are_alike(machine, value)


def is_word_alone(one, other, value):
    """Whether any value is a word that fits the one pattern and not the other one."""
    return value in one and value not in other


def is_hidden(circuit, fault, other):
    """Whether no word parts a fault and a suspect."""
    return showing(circuit, fault, other) is None


def is_showing(circuit, fault, other, value):
    """Whether any value is a word that parts a fault and a suspect."""
    return is_word(value, len(circuit.inputs())) and shows_at(circuit, value, fault, other)


def is_covered(circuit, menu, some, number):
    """Whether some cover has at most so many positions."""
    check_against(circuit, menu, some, number)
    return len(fewest_tests(circuit, menu, some)) <= number


def small_cover(circuit, menu, some, number):
    """A cover of at most so many positions."""
    return fewest_tests(circuit, menu, some)


def is_small_cover(circuit, menu, some, number, value):
    """Whether any value is a cover of at most so many positions."""
    return is_cover(circuit, menu, some, value) and len(value) <= number


def is_reached(wiring, beat):
    """Whether some lags reach a beat."""
    return greatest_lags(wiring, beat) is not None


def are_reaching(wiring, beat, value):
    """Whether any value is lags that reach a beat."""
    return is_lags(wiring, value) and reaches(wiring, beat, value)


def can_reset(machine):
    """Whether some word resets a machine."""
    return apart(machine) is None


def can_be_found(machine, lot):
    """Whether some tree finds out a lot."""
    return depth(machine, lot) is not None


def is_parting_within(one, other, pattern, value):
    """Whether any value is a word that fits a pattern, and to which two boxes have unlike answers."""
    return value in pattern and answer(one, value) != answer(other, value)


def line_of(word):
    """Of the line that a word begins: what tells whether it is true; papers of both words; what judges these."""
    return {
        "agrees": (alike_within, relation_within, parting_within, is_relation_within, is_parting_within),
        "alike": (are_alike, relation, parting, is_relation, is_parting),
        "covered": (is_covered, small_cover, tree_against, is_small_cover, is_tree_against),
        "enough": (is_enough, choice, conflict, is_choice, is_conflict),
        "equal": (are_equal, equal_table, parting_of, is_equal_table, is_parting_of),
        "found": (can_be_found, tree, stuck, is_tree, is_stuck),
        "hidden": (is_hidden, hiding, showing, is_hiding, is_showing),
        "keeps": (keeps, kept_table, breaking_word, is_kept_table, is_breaking_word),
        "lasts": (can_last, lasting_places, end_ranks, is_lasting_places, is_end_ranks),
        "needs": (needs_so_many, need_paper, fewer_states, is_need_paper, is_fewer_states),
        "onward": (keeps_further, further_table, further_word, is_further_table, is_further_word),
        "planned": (we_keep, whole_plan, whole_spoiler, is_plan, is_spoiler),
        "reached": (is_reached, greatest_lags, ring, are_reaching, is_ring),
        "resets": (can_reset, any_reset, apart, is_reset, is_apart),
        "settles": (settles, ranks, unrest, is_ranks, is_unrest),
        "within": (lies_within, within_table, word_alone, is_within_table, is_word_alone),
    }[word]
