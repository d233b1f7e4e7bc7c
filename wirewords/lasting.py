"""Whether words of every length fit a pattern, and papers that show it."""

from wirewords.bits import is_count
from wirewords.patterns import is_place, least_pattern
from wirewords.walks import unlike_rows


def places_met(goes):
    """The places that are come to from 0, sorted."""
    met = {0: True}
    todo = [0]
    while todo:
        leads = goes[todo.pop()]
        for letter in leads:
            if leads[letter] not in met:
                met[leads[letter]] = True
                todo.append(leads[letter])
    return sorted(met)


def places_that_last(goes):
    """The places that are come to and from which words of every length lead on, sorted."""
    kept = places_met(goes)
    while True:
        further = [place for place in kept if any([goal in kept for goal in list(goes[place].values())])]
        if further == kept:
            return kept
        kept = further


def can_last(pattern):
    """Whether words of every length fit."""
    return 0 in places_that_last(pattern.goes())


def is_lasting(pattern):
    """Whether some letter leads on from each place that is come to."""
    goes = pattern.goes()
    return all([len(goes[place]) > 0 for place in places_met(goes)])


def lasting_places(pattern):
    """The places come to from which words of every length lead on, sorted; None if 0 is not one."""
    kept = places_that_last(pattern.goes())
    return kept if 0 in kept else None


def is_lasting_places(pattern, value):
    """Whether any value is lasting places of a pattern."""
    places = unlike_rows(value, lambda place: is_place(pattern, place))
    if places is None or 0 not in places:
        return False
    goes = pattern.goes()
    return all([any([goal in places for goal in list(goes[place].values())]) for place in places])


def end_ranks(pattern):
    """The dict from the places come to, to the greatest length of what leads on; None if it has no end."""
    if can_last(pattern):
        return None
    goes = pattern.goes()
    places = places_met(goes)
    ranks = {}
    while len(ranks) < len(places):
        for place in places:
            goals = list(goes[place].values())
            if all([goal in ranks for goal in goals]):
                ranks[place] = max([ranks[goal] + 1 for goal in goals], default=0)
    return {place: ranks[place] for place in places}


def is_end_ranks(pattern, value):
    """Whether any value is end ranks of a pattern."""
    if not isinstance(value, dict) or not all([is_place(pattern, place) for place in value]):
        return False
    if 0 not in value or not all([is_count(value[place]) for place in value]):
        return False
    goes = pattern.goes()
    for place in value:
        for goal in list(goes[place].values()):
            if goal not in value or value[goal] >= value[place]:
                return False
    return True


def lasting_part(pattern):
    """The least pattern of the words that begin longer ones that fit, of every length; None."""
    goes = pattern.goes()
    kept = places_that_last(goes)
    if 0 not in kept:
        return None
    # A place that does not last is never come to in the part, so that it may keep what leads on from it.
    part = [{letter: leads[letter] for letter in leads if leads[letter] in kept} for leads in goes]
    return least_pattern(pattern.width, part)
