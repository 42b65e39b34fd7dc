"""Colourings of small webs with told sizes, told hues or lists of hues, and how many there are."""

from levelhues.base.checks import are_places, check_within, is_within
from levelhues.base.rows import MAX_HUES
from levelhues.base.webs import check_web
from levelhues.errors import InvalidOperation, TooMany
from levelhues.hue.judged import check_hues
from levelhues.level.covers import (
    apart_sets,
    bits_of,
    every_place,
    first_sets,
    many_in,
    row_of_sets,
    tied_sets,
    widest_sets,
)

MAX_EXACT = 10
MAX_LISTED = 7


def sized_colouring(web, sizes):
    """Return a colouring in which each hue comes as often as its size tells, or None."""
    check_web(web)
    if not _are_sizes(sizes, web.size):
        raise InvalidOperation("no tuple of one to twenty sizes that are together the number of the places")
    _check_size(web, MAX_EXACT)
    tied = tied_sets(web)
    return _row(web, len(sizes), lambda hue, free: apart_sets(tied, free, sizes[hue]))


def set_colouring(web, hues, given):
    """Return a level colouring in which each place that is a key of `given` has the hue told for it, or None."""
    check_hues(web, hues)
    if not _are_given(given, web.size, hues):
        raise InvalidOperation("no dict from places to hues")
    _check_size(web, MAX_EXACT)
    tied = tied_sets(web)
    told = [bits_of([place for place in given if given[place] == hue]) for hue in range(hues)]
    return _row(web, hues, lambda hue, free: _level_sets(tied, free, told, hue))


def list_colouring(web, lists, most):
    """Return a row with hues of the lists, unlike ones at tied places, and none more than `most` times, or None."""
    check_web(web)
    if not _are_lists(lists, web.size):
        raise InvalidOperation("no tuple with an ascending tuple of hues for each place")
    check_within(most, 0, MAX_EXACT)
    _check_size(web, MAX_EXACT)
    tied = tied_sets(web)
    allowed = [bits_of([place for place in range(web.size) if hue in lists[place]]) for hue in range(MAX_HUES)]
    # A place that could join a set need not wait for a later hue.
    return _row(web, MAX_HUES, lambda hue, free: widest_sets(tied, free & allowed[hue], most))


def count_colourings(web, hues):
    """Return the number of the colourings with so many hues."""
    check_hues(web, hues)
    _check_size(web, MAX_EXACT)
    return _many_ways(tied_sets(web), every_place(web), hues, list(range(web.size + 1)), {})


def count_level(web, hues):
    """Return the number of the level colourings with so many hues."""
    check_hues(web, hues)
    _check_size(web, MAX_EXACT)
    least = web.size // hues
    return _many_ways(tied_sets(web), every_place(web), hues, [least, least + 1], {})


def colourings(web, hues):
    """Go through all colourings with so many hues, ascending."""
    check_hues(web, hues)
    _check_size(web, MAX_LISTED)
    beside = [web[place] for place in range(web.size)]
    yield from _rows_from(beside, hues, ())


def _check_size(web, limit):
    if web.size > limit:
        raise TooMany(limit)


def _are_sizes(value, size):
    if not isinstance(value, tuple) or not 1 <= len(value) <= MAX_HUES:
        return False
    return all([is_within(many, 0, size) for many in value]) and sum(value) == size


def _are_given(value, size, hues):
    if not isinstance(value, dict):
        return False
    return all([is_within(place, 0, size - 1) and is_within(value[place], 0, hues - 1) for place in value])


def _are_lists(value, size):
    return isinstance(value, tuple) and len(value) == size and all([are_places(hues, MAX_HUES) for hues in value])


def _row(web, hues, sets_for):
    """Return the row in which each hue has one of the sets that are told for it and the free places, or None."""
    sets = _sets_from(sets_for, 0, hues, every_place(web), {})
    return None if sets is None else row_of_sets(sets, web.size)


def _sets_from(sets_for, hue, hues, free, failed):
    """Return sets for this hue and all behind it that together have each free place once, or None."""
    if hue == hues:
        return None if free else []
    if (hue, free) in failed:
        return None
    for chosen in sets_for(hue, free):
        rest = _sets_from(sets_for, hue + 1, hues, free & ~chosen, failed)
        if rest is not None:
            return [chosen, *rest]
    failed[(hue, free)] = True
    return None


def _level_sets(tied, free, told, hue):
    """Return the sets of free places that a hue can have in a level colouring with what is told for all hues."""
    least = len(tied) // len(told)
    behind = len(told) - hue - 1
    open_places = free
    for at, places in enumerate(told):
        if at != hue:
            open_places = open_places & ~places
    found = []
    for size in (least, least + 1):
        left = many_in(free) - size
        if least * behind <= left <= (least + 1) * behind:
            found.extend([chosen for chosen in apart_sets(tied, open_places, size) if told[hue] & ~chosen == 0])
    return found


def _many_ways(tied, free, hues, sizes, counted):
    """Return in how many ways the free places can have so many hues, each of one of these sizes."""
    if not free or hues == 0:
        return 1 if not free and (hues == 0 or 0 in sizes) else 0
    if (free, hues) not in counted:
        # The least free place can have each of the hues.
        many = 0
        for size in sizes:
            if size > 0:
                for chosen in first_sets(tied, free, size):
                    many = many + _many_ways(tied, free & ~chosen, hues - 1, sizes, counted)
        counted[(free, hues)] = hues * many
    return counted[(free, hues)]


def _rows_from(beside, hues, row):
    """Go through the colourings, ascending, that begin with a row of the first places."""
    if len(row) == len(beside):
        yield row
    else:
        near = [row[other] for other in beside[len(row)] if other < len(row)]
        for hue in range(hues):
            if hue not in near:
                longer = (*row, hue)
                yield from _rows_from(beside, hues, longer)
