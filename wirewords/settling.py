"""Whether tangles come to rest, and papers that show it."""

from wirewords.bits import all_bits, is_count, is_letter, is_word
from wirewords.errors import InvalidRun
from wirewords.tangles import check_held
from wirewords.webs import (
    all_runs,
    helper_of,
    rests_of,
    runs_from,
    still_ones,
    swinging,
    tied_with,
    web_from,
)


def come_to(tangle, letter, standing):
    """The sorted list of the standings come to from one."""
    check_held(tangle, letter, standing)
    return sorted(web_from(tangle, letter, [standing]))


def shortest_run(tangle, letter, standing):
    """Of the shortest runs to a still standing the first one; None."""
    check_held(tangle, letter, standing)
    web = web_from(tangle, letter, [standing])
    runs = runs_from(web, standing)
    still = still_ones(web, list(runs))
    return runs[still[0]] if still else None


def rest_at(tangle, letter, standing):
    """The rest to which a tangle settles from a standing that is known to be right; None."""
    return rests_of(web_from(tangle, letter, [standing]))[standing]


def settles(tangle, letter, standing):
    """Whether the tangle settles from a standing."""
    check_held(tangle, letter, standing)
    return rest_at(tangle, letter, standing) is not None


def rest(tangle, letter, standing):
    """The rest to which the tangle settles from a standing; None."""
    check_held(tangle, letter, standing)
    return rest_at(tangle, letter, standing)


def ranks(tangle, letter, standing):
    """Ranks for a standing; None if the tangle does not settle from there."""
    check_held(tangle, letter, standing)
    web = web_from(tangle, letter, [standing])
    if rests_of(web)[standing] is None:
        return None
    runs = all_runs(web)
    told = {}
    for here in sorted(web):
        # What is come to from a group is more than what is come to from any behind it.
        told[here] = (len(runs[here]) - 1, helper_of(web, tied_with(runs, here)))
    return told


def have_rank_forms(tangle, value):
    """Whether any value is a dict from standings to tuples of a count and something."""
    if not isinstance(value, dict) or not all([is_letter(here, len(tangle.names())) for here in value]):
        return False
    pairs = list(value.values())
    return all([isinstance(pair, tuple) and len(pair) == 2 and is_count(pair[0]) for pair in pairs])


def is_rank(value, turns, here):
    """Whether a standing's rank in such a dict is right for the turns from there."""
    count, helper = value[here]
    if not turns:
        return count == 0 and helper is None
    if not isinstance(helper, str) or helper not in turns:
        return False
    for gate in turns:
        if turns[gate] not in value:
            return False
        below, same = value[turns[gate]]
        if below >= count and (gate == helper or below != count or same != helper):
            return False
    return True


def is_ranks(tangle, letter, standing, value):
    """Whether any value is ranks for a standing."""
    check_held(tangle, letter, standing)
    if not have_rank_forms(tangle, value) or standing not in value:
        return False
    turns = {
        here: {gate: tangle.turned(here, gate) for gate in tangle.wanting(letter, here)} for here in value
    }
    if len([here for here in value if not turns[here]]) != 1:
        return False
    return all([is_rank(value, turns[here], here) for here in value])


def witness(web, group, gate):
    """Where in a group a gate does not want to turn, or turns within it, and whether it is to turn there."""
    for here in group:
        if gate not in web[here]:
            return here, False
    # The group has no helper, so that a turn of this gate stays inside.
    inside = [here for here in group if web[here][gate] in group]
    return inside[0], True


def lap_of(web, runs, start, gates):
    """A lap from a standing, within its group without a helper, that treats all gates fairly."""
    group = tied_with(runs, start)
    first = [gate for gate in web[start] if web[start][gate] in group][0]
    lap = [first]
    here = web[start][first]
    for gate in gates:
        there, turns = witness(web, group, gate)
        lap = lap + runs[here][there]
        here = there
        if turns:
            lap = lap + [gate]
            here = web[there][gate]
    return lap + runs[here][start]


def swing(tangle, letter, standing):
    """A swing; None if there is none."""
    check_held(tangle, letter, standing)
    web = web_from(tangle, letter, [standing])
    runs = all_runs(web)
    found = swinging(web, runs, list(runs[standing]))
    if not found:
        return None
    return runs[standing][found[0]], lap_of(web, runs, found[0], tangle.names())


def two_rests(tangle, letter, standing):
    """Two runs to unlike still standings; None if there are none."""
    check_held(tangle, letter, standing)
    web = web_from(tangle, letter, [standing])
    runs = runs_from(web, standing)
    still = still_ones(web, list(runs))
    return (runs[still[0]], runs[still[1]]) if len(still) > 1 else None


def walked(tangle, letter, standing, value):
    """The standings of any value that is a run; None if it is none."""
    try:
        return tangle.places(letter, standing, value)
    except InvalidRun:
        return None


def is_swing(tangle, letter, standing, value):
    """Whether any value is a swing."""
    check_held(tangle, letter, standing)
    if not isinstance(value, tuple) or len(value) != 2:
        return False
    path = walked(tangle, letter, standing, value[0])
    lap = None if path is None else walked(tangle, letter, path[-1], value[1])
    if lap is None or len(lap) == 1 or lap[-1] != lap[0]:
        return False
    wanting = [tangle.wanting(letter, here) for here in lap]
    return all([gate in value[1] or not all([gate in row for row in wanting]) for gate in tangle.names()])


def are_two_rests(tangle, letter, standing, value):
    """Whether any value is two rests."""
    check_held(tangle, letter, standing)
    if not isinstance(value, tuple) or len(value) != 2:
        return False
    ways = [walked(tangle, letter, standing, run) for run in value]
    if ways[0] is None or ways[1] is None or ways[0][-1] == ways[1][-1]:
        return False
    return not any([tangle.wanting(letter, way[-1]) for way in ways])


def losses_at(web, here):
    """The sorted list of tuples (gate, other): both want to turn, but the other one not behind the gate."""
    return [
        (gate, other)
        for gate in web[here]
        for other in web[here]
        if other != gate and other not in web[web[here][gate]]
    ]


def loss(tangle, letter, standing):
    """Of the losses with the shortest runs the least one; None."""
    check_held(tangle, letter, standing)
    web = web_from(tangle, letter, [standing])
    runs = runs_from(web, standing)
    for here in runs:
        found = losses_at(web, here)
        if found:
            return runs[here], found[0][0], found[0][1]
    return None


def is_steady(tangle, letter, standing):
    """Whether the tangle is steady from a standing."""
    return loss(tangle, letter, standing) is None


def is_loss(tangle, letter, standing, value):
    """Whether any value is a loss."""
    check_held(tangle, letter, standing)
    if not isinstance(value, tuple) or len(value) != 3:
        return False
    run, gate, other = value
    way = walked(tangle, letter, standing, run)
    if way is None or not isinstance(gate, str) or not isinstance(other, str) or gate == other:
        return False
    wanting = tangle.wanting(letter, way[-1])
    if gate not in wanting or other not in wanting:
        return False
    return other not in tangle.wanting(letter, tangle.turned(way[-1], gate))


def all_rests(tangle):
    """The dict from the letters to dicts from all standings to their rests, or None."""
    letters = all_bits(len(tangle.inputs()))
    return {letter: rests_of(web_from(tangle, letter, tangle.standings())) for letter in letters}


def odd_one_of(found, standings):
    """The first letter and standing of all rests that do not go with the first standing's; None."""
    for letter in found:
        for standing in standings:
            if found[letter][standing] is None or found[letter][standing] != found[letter][standings[0]]:
                return letter, standing
    return None


def odd_one(tangle):
    """The least letter and standing from where it does not settle as from the first standing; None."""
    return odd_one_of(all_rests(tangle), tangle.standings())


def is_plain(tangle):
    """Whether the tangle settles to one rest at each letter."""
    return odd_one(tangle) is None


def rests(tangle):
    """The dict from the letters to the rests; None unless the tangle is plain."""
    found = all_rests(tangle)
    standings = tangle.standings()
    if odd_one_of(found, standings) is not None:
        return None
    return {letter: found[letter][standings[0]] for letter in found}


def explored(tangle, letter, standing):
    """The rests as they are met, for each the numbers of those behind it, and the least miss or None."""
    begun = rest_at(tangle, letter, standing)
    if begun is None:
        return [], [], [letter]
    found = all_rests(tangle)
    met = [begun]
    words = [[letter]]
    rows = []
    while len(rows) < len(met):
        here, word = met[len(rows)], words[len(rows)]
        row = []
        for each in found:
            there = found[each][here]
            if there is None:
                return met, rows, word + [each]
            if there not in met:
                met.append(there)
                words.append(word + [each])
            row.append(met.index(there))
        rows.append(row)
    return met, rows, None


def latch(tangle, letter, standing):
    """The latch; None if the tangle does not latch from there."""
    check_held(tangle, letter, standing)
    met, rows, missed = explored(tangle, letter, standing)
    return (met, rows) if missed is None else None


def miss(tangle, letter, standing):
    """The least miss; None if the tangle latches from there."""
    check_held(tangle, letter, standing)
    return explored(tangle, letter, standing)[2]


def is_miss(tangle, letter, standing, value):
    """Whether any value is a miss."""
    check_held(tangle, letter, standing)
    if not is_word(value, len(tangle.inputs())) or len(value) == 0 or value[0] != letter:
        return False
    known = {}
    here = standing
    for at, each in enumerate(value):
        if (each, here) not in known:
            known[(each, here)] = rest_at(tangle, each, here)
        here = known[(each, here)]
        if here is None:
            return at == len(value) - 1
    return False
