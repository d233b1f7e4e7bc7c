"""Webs: the standings of a tangle at a letter, and the turns that lead from each to others."""


def web_from(tangle, letter, starts):
    """The dict from all standings come to from some to dicts: wanting gates, sorted, to what their turns lead to."""
    web = {}
    todo = list(starts)
    while todo:
        here = todo.pop()
        if here not in web:
            web[here] = {gate: tangle.turned(here, gate) for gate in tangle.wanting(letter, here)}
            todo.extend(list(web[here].values()))
    return web


def runs_from(web, standing):
    """The dict from the standings come to from one to the first of the shortest runs there, as they are met."""
    runs = {standing: []}
    met = [standing]
    at = 0
    while at < len(met):
        here = met[at]
        for gate in web[here]:
            there = web[here][gate]
            if there not in runs:
                runs[there] = runs[here] + [gate]
                met.append(there)
        at += 1
    return runs


def all_runs(web):
    """The dict from each standing of a web to its runs."""
    return {standing: runs_from(web, standing) for standing in web}


def tied_with(runs, standing):
    """The standings that lead to this one, and to which it leads."""
    return [there for there in runs[standing] if standing in runs[there]]


def helper_of(web, group):
    """The first gate that wants to turn in all of a group, and whose turns leave it; None."""
    inside = {standing: True for standing in group}
    for gate in web[group[0]]:
        if all([gate in web[here] and web[here][gate] not in inside for here in group]):
            return gate
    return None


def still_ones(web, standings):
    """Those of some standings at which no gate wants to turn."""
    return [standing for standing in standings if len(web[standing]) == 0]


def swinging(web, runs, standings):
    """Those of some standings that belong to a group without a helper, in their sequence."""
    found = []
    for standing in standings:
        if len(web[standing]) > 0 and helper_of(web, tied_with(runs, standing)) is None:
            found.append(standing)
    return found


def rests_of(web):
    """The dict from all standings of a web to the rest to which it settles from there, or None."""
    runs = all_runs(web)
    bad = {standing: True for standing in swinging(web, runs, list(web))}
    rests = {}
    for standing in web:
        still = still_ones(web, list(runs[standing]))
        settled = len(still) == 1 and not any([there in bad for there in runs[standing]])
        rests[standing] = still[0] if settled else None
    return rests
