"""Bars: short papers that a web has no level colouring with some number of hues."""

from levelhues.base.checks import are_places, ascends, is_integer, is_within
from levelhues.base.joined import greatest_clique
from levelhues.errors import TooMany
from levelhues.hue.judged import check_hues
from levelhues.level.covers import (
    behind_pair,
    bits_of,
    every_place,
    least_in,
    level_cover,
    places_of,
    sets_in_cover,
    tied_sets,
    widest_sets,
)

# The same number as MAX_SEARCHED of levelhues.level.finding, which imports from this file.
_MOST_SEARCHED = 12


def is_bar(web, hues, value):
    """Tell whether the value is a bar."""
    check_hues(web, hues)
    if not isinstance(value, tuple) or not 2 <= len(value) <= 3:
        return False
    if len(value) == 3:
        return value[0] == "place" and _is_place_bar(web, hues, value[1], value[2])
    if value[0] == "clique":
        return web.is_clique(value[1]) and len(value[1]) > hues
    return value[0] == "cases" and hues <= web.size and _is_table(web, hues, value[1])


def clique_bar(web, hues):
    """Return a bar with a clique, or None if there is none."""
    check_hues(web, hues)
    places = greatest_clique(web)
    return ("clique", places) if len(places) > hues else None


def place_bar(web, hues):
    """Return a bar with a place and cliques, or None if there is none."""
    check_hues(web, hues)
    _check_size(web)
    most = web.size // hues - 2
    for place in range(web.size):
        cliques = _cliques_over(_gaps(web), bits_of(_not_beside(web, place)), most)
        if cliques is not None:
            return ("place", place, tuple([places_of(clique) for clique in cliques]))
    return None


def cases_bar(web, hues):
    """Return a bar with a table of cases, or None if there is none."""
    check_hues(web, hues)
    _check_size(web)
    return _cases_bar(web, hues)


def bar(web, hues):
    """Return a bar, or None if there is none."""
    check_hues(web, hues)
    if hues > web.most:
        return None
    _check_size(web)
    cases = _cases_bar(web, hues)
    if cases is None:
        return None
    # The other kinds are shorter papers, but there is not always one of them.
    return clique_bar(web, hues) or place_bar(web, hues) or cases


def _check_size(web):
    if web.size > _MOST_SEARCHED:
        raise TooMany(_MOST_SEARCHED)


def _not_beside(web, place):
    """Return the other places to which a place is not tied."""
    return tuple([other for other in range(web.size) if other != place and other not in web[place]])


def _gaps(web):
    """Return for each place the set of the others to which it is not tied: what is apart by these is a clique."""
    return [bits_of(_not_beside(web, place)) for place in range(web.size)]


def _cliques_over(gaps, free, most):
    """Return at most so many cliques that together have each free place just once, or None."""
    if most < 0 or free and most == 0:
        return None
    if not free:
        return []
    first = least_in(free)
    others = free & ~gaps[first] & ~(1 << first)
    # A clique that another place can join need not be looked at.
    for chosen in widest_sets(gaps, others, len(gaps)):
        clique = chosen | 1 << first
        rest = _cliques_over(gaps, free & ~clique, most - 1)
        if rest is not None:
            return [clique, *rest]
    return None


def _is_place_bar(web, hues, place, cliques):
    if not is_within(place, 0, web.size - 1) or not isinstance(cliques, tuple):
        return False
    if not all([web.is_clique(clique) and len(clique) > 0 for clique in cliques]):
        return False
    told = sorted([other for clique in cliques for other in clique])
    return told == list(_not_beside(web, place)) and len(cliques) < web.size // hues - 1


def _cases_bar(web, hues):
    if hues > web.size:
        return None
    came = level_cover(web, hues)
    if sets_in_cover(came, web, hues) is not None:
        return None
    return ("cases", tuple(sorted([(places_of(covered), used) for covered, used in came])))


def _is_table(web, hues, table):
    if not isinstance(table, tuple) or not all([_is_pair(web, pair) for pair in table]) or not ascends(table):
        return False
    every = every_place(web)
    pairs = {(bits_of(places), used): True for places, used in table}
    if (0, 0) not in pairs or not all([covered != every for covered, _ in pairs]):
        return False
    tied = tied_sets(web)
    share = divmod(web.size, hues)
    for covered, used in pairs:
        if used < hues:
            for chosen in behind_pair(tied, every & ~covered, used, share):
                if (covered | chosen, used + 1) not in pairs:
                    return False
    return True


def _is_pair(web, value):
    if not isinstance(value, tuple) or len(value) != 2:
        return False
    return are_places(value[0], web.size) and is_integer(value[1])
