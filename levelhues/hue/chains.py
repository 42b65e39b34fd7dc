"""Chains of places along which a colouring is shifted from hue to hue, and the closed sets that bar them."""

from levelhues.base.checks import are_places, is_within
from levelhues.base.rows import sizes
from levelhues.errors import InvalidOperation, NoChain
from levelhues.hue.judged import changed_row, check_colouring, check_hue, open_hues


def links(web, hues, row):
    """Return the dict from pairs of hues, the first linking to the second, to the places that are movable so."""
    check_colouring(web, hues, row)
    found = _links(web, hues, row)
    return {pair: tuple(found[pair]) for pair in sorted(found)}


def chain(web, hues, row, one, other):
    """Return a chain with the fewest pairs from a hue to another one."""
    _check_two(web, hues, row, one, other)
    onward = _onward(web, hues, row, other)
    if one not in onward:
        raise NoChain((one, other))
    return steps_along(onward, one)


def is_chain(web, hues, row, one, other, value):
    """Tell whether the value is a chain from the one to the other hue."""
    check_colouring(web, hues, row)
    check_hue(hues, one)
    check_hue(hues, other)
    return _ends(web, hues, row, value) == (one, other)


def closed_set(web, hues, row, one, other):
    """Return a closed set for the hue `other` that does not have the hue `one`, or None."""
    _check_two(web, hues, row, one, other)
    found = reaching(web, hues, row, other)
    return None if one in found else found


def is_closed_set(web, hues, row, other, value):
    """Tell whether the value is a closed set for a hue."""
    check_colouring(web, hues, row)
    check_hue(hues, other)
    if not are_places(value, hues) or other not in value:
        return False
    outside = [place for place, worn in enumerate(row) if worn not in value]
    # A place of a hue outside is movable to all hues but its own and those of its neighbours.
    return all([hue not in value for place in outside for hue in open_hues(web, hues, row, place)])


def reaching(web, hues, row, other):
    """Return the ascending tuple of the hues from which there is a chain to a hue, and of this hue."""
    check_colouring(web, hues, row)
    check_hue(hues, other)
    return tuple(sorted(_onward(web, hues, row, other)))


def shifted(web, hues, row, steps):
    """Return the colouring shifted by a chain."""
    check_colouring(web, hues, row)
    return _shifted(web, hues, row, steps)


def evened(web, hues, row):
    """Return chains, one behind the other, each to a hue with at least two places less, until there is no more."""
    check_colouring(web, hues, row)
    made = []
    steps = _evening_chain(web, hues, row)
    while steps is not None:
        made.append(steps)
        row = _shifted(web, hues, row, steps)
        steps = _evening_chain(web, hues, row)
    return tuple(made)


def shifted_by(web, hues, row, rows):
    """Return the colouring that is made of a row by a tuple of chains, one behind the other."""
    check_colouring(web, hues, row)
    if not isinstance(rows, tuple):
        raise InvalidOperation("no tuple of chains")
    for steps in rows:
        row = _shifted(web, hues, row, steps)
    return row


def links_between(beside, row, hues):
    """Return the dict of links between some hues; `beside` and `row` tell the neighbours and hues of all places."""
    found = {}
    for place, worn in enumerate(row):
        if worn in hues:
            near = [row[other] for other in beside[place]]
            for hue in hues:
                if hue != worn and hue not in near:
                    found.setdefault((worn, hue), []).append(place)
    return found


def onward_to(found, hues, other):
    """Return the dict from each of some hues that reaches another one by links to the first pair of a shortest chain.

    For the other hue itself, which needs no chain, the dict has None.
    """
    onward = {other: None}
    ahead = [other]
    while ahead:
        goal = ahead.pop(0)
        for hue in hues:
            if hue not in onward and (hue, goal) in found:
                onward[hue] = (found[(hue, goal)][0], goal)
                ahead.append(hue)
    return onward


def steps_along(onward, one):
    """Return the chain that such a dict tells for a hue."""
    steps = []
    step = onward[one]
    while step is not None:
        steps.append(step)
        step = onward[step[1]]
    return tuple(steps)


def _check_two(web, hues, row, one, other):
    check_colouring(web, hues, row)
    check_hue(hues, one)
    check_hue(hues, other)
    if one == other:
        raise InvalidOperation("both are one hue")


def _links(web, hues, row):
    beside = [web[place] for place in range(web.size)]
    return links_between(beside, row, list(range(hues)))


def _onward(web, hues, row, other):
    return onward_to(_links(web, hues, row), list(range(hues)), other)


def _are_steps(value, size, hues):
    if not isinstance(value, tuple) or not value:
        return False
    if not all([isinstance(step, tuple) and len(step) == 2 for step in value]):
        return False
    return all([is_within(place, 0, size - 1) and is_within(hue, 0, hues - 1) for place, hue in value])


def _ends(web, hues, row, value):
    """Return the pair of the hues from and to which the value is a chain, or None if it is none."""
    if not _are_steps(value, web.size, hues):
        return None
    worn = [row[place] for place, _ in value]
    gained = [hue for _, hue in value]
    if worn[1:] != gained[:-1] or len(set([worn[0], *gained])) <= len(value):
        return None
    if not all([hue in open_hues(web, hues, row, place) for place, hue in value]):
        return None
    return (worn[0], gained[-1])


def _shifted(web, hues, row, steps):
    if _ends(web, hues, row, steps) is None:
        raise InvalidOperation("no chain between two hues")
    return changed_row(row, {place: hue for place, hue in steps})


def _evening_chain(web, hues, row):
    """Return a chain from a hue to one with at least two places less, or None if there is none."""
    many = sizes(row, hues)
    for other in sorted(range(hues), key=lambda hue: many[hue]):
        onward = _onward(web, hues, row, other)
        for one in range(hues):
            if one in onward and many[one] >= many[other] + 2:
                return steps_along(onward, one)
    return None
