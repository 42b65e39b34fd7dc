"""Webs laid on one another by rearrangements of their places, without common ties."""

from levelhues.base.checks import are_places, is_arrangement
from levelhues.base.webs import check_web
from levelhues.errors import InvalidOperation, TooMany

MAX_LAID = 8


def common_ties(one, other, row):
    """Return the ascending tuple of the ties of the one web that are laid on ties of the other one."""
    _check_laid_by(one, other, row)
    return _common(one, other, row)


def improved(one, other, row):
    """Return a pair of places whose entries, exchanged, leave fewer common ties, or None."""
    _check_laid_by(one, other, row)
    return _better_pair(one, other, row)


def swapped(one, other, row, pair):
    """Return the rearrangement with the two entries of a pair of places exchanged."""
    _check_laid_by(one, other, row)
    if not are_places(pair, one.size) or len(pair) != 2:
        raise InvalidOperation("no pair of two places, the lesser one first")
    return _with_swap(row, pair)


def laid(one, other):
    """Return a rearrangement without common ties, or None if there is none."""
    _check_two(one, other)
    if 2 * one.most * other.most < one.size:
        return _laid_by_swaps(one, other)
    if one.size > MAX_LAID:
        raise TooMany(MAX_LAID)
    # A place with many ties has the fewest places to go to, and so it goes first.
    order = sorted(range(one.size), key=lambda place: len(one[place]), reverse=True)
    found = _laid_from(order, one, other, {})
    return None if found is None else tuple([found[place] for place in range(one.size)])


def is_laid(one, other, value):
    """Tell whether the value is a rearrangement without common ties."""
    _check_two(one, other)
    return is_arrangement(value, one.size) and not _common(one, other, value)


def _check_two(one, other):
    check_web(one)
    check_web(other)
    if one.size != other.size:
        raise InvalidOperation("the webs have not equally many places")


def _check_laid_by(one, other, row):
    _check_two(one, other)
    if not is_arrangement(row, one.size):
        raise InvalidOperation("no rearrangement")


def _common(one, other, row):
    return tuple([(lesser, greater) for lesser, greater in one.ties if row[greater] in other[row[lesser]]])


def _better_pair(one, other, row):
    many = len(_common(one, other, row))
    for lesser in range(one.size):
        for greater in range(lesser + 1, one.size):
            if len(_common(one, other, _with_swap(row, (lesser, greater)))) < many:
                return (lesser, greater)
    return None


def _with_swap(row, pair):
    lesser, greater = pair
    swap = {lesser: row[greater], greater: row[lesser]}
    return tuple([swap.get(at, goal) for at, goal in enumerate(row)])


def _laid_by_swaps(one, other):
    """Return a rearrangement without common ties, to which [12.2] lets pair after pair lead."""
    row = tuple(range(one.size))
    pair = _better_pair(one, other, row)
    while pair is not None:
        row = _with_swap(row, pair)
        pair = _better_pair(one, other, row)
    return row


def _laid_from(order, one, other, goals):
    """Return the dict from places to places that goes on from a dict for the first ones of an order, or None."""
    if len(goals) == len(order):
        return goals
    place = order[len(goals)]
    taken = list(goals.values())
    near = [goals[known] for known in one[place] if known in goals]
    for goal in range(other.size):
        if goal not in taken and not [at for at in near if at in other[goal]]:
            found = _laid_from(order, one, other, {**goals, place: goal})
            if found is not None:
                return found
    return None
