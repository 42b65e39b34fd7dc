"""Thin orders and thick cores, and numbers of hues with which level colourings are promised."""

from levelhues.base.checks import are_places, check_within, is_arrangement
from levelhues.base.joined import is_odd_ring, odd_ring, pieces, sides
from levelhues.base.rows import MOST_PLACES
from levelhues.base.webs import check_web
from levelhues.errors import InvalidOperation

_MOST_TIES = 4


def thickness(web):
    """Return the least number such that each set of places has one that is tied to at most so many of the set."""
    check_web(web)
    return max([ties for _, ties in _peeled(web)])


def thin_order(web, number):
    """Return all places, each tied to at most so many of those ahead of it, or None."""
    _check_number(web, number)
    if thickness(web) > number:
        return None
    return tuple([place for place, _ in _peeled(web)][::-1])


def thick_core(web, number):
    """Return an ascending tuple of places, each of which is tied to more than so many of them, or None."""
    _check_number(web, number)
    core = list(range(web.size))
    thin = _thin_places(web, core, number)
    while thin:
        core = [place for place in core if place not in thin]
        thin = _thin_places(web, core, number)
    return tuple(core) if core else None


def is_thin_order(web, number, value):
    """Tell whether the value has each place once, each tied to at most so many of those ahead of it."""
    _check_number(web, number)
    if not is_arrangement(value, web.size):
        return False
    return all([_ties_into(web, place, value[:at]) <= number for at, place in enumerate(value)])


def is_thick_core(web, number, value):
    """Tell whether the value is a tuple of places, each of which is tied to more than so many of them."""
    _check_number(web, number)
    if not are_places(value, web.size) or not value:
        return False
    return not _thin_places(web, value, number)


def tie_sum(web):
    """Return the greatest sum of the degrees of the two places of a tie, or 0 if there is no tie."""
    check_web(web)
    return max([len(web[one]) + len(web[other]) for one, other in web.ties], default=0)


def promised_from(web):
    """Return the least number of hues, at least 1, of which the double is greater than `tie_sum(web)`."""
    return tie_sum(web) // 2 + 1


def odd_shape(web):
    """Return an odd shape of the web, or None if it has none."""
    _check_shaped(web)
    every = tuple(range(web.size))
    if web.is_clique(every):
        return ("full", every)
    if web.most == 2:
        ring = odd_ring(web)
        return None if ring is None else ("ring", ring)
    both = sides(web)
    if both is not None and _are_lots(web, both[0], both[1]):
        return ("lots", both[0], both[1])
    return None


def is_odd_shape(web, value):
    """Tell whether the value is an odd shape of the web."""
    _check_shaped(web)
    if not isinstance(value, tuple) or not 2 <= len(value) <= 3:
        return False
    if len(value) == 3:
        return value[0] == "lots" and _are_lots(web, value[1], value[2])
    if value[0] == "full":
        return web.is_clique(value[1]) and len(value[1]) == web.size
    # In one piece with at most two ties at each place a ring has all places.
    return value[0] == "ring" and web.most == 2 and is_odd_ring(web, value[1])


def has_level_at_most(web):
    """Tell by [15.3] whether there is a level colouring with as many hues as the greatest degree."""
    return odd_shape(web) is None


def _check_number(web, number):
    check_web(web)
    check_within(number, 0, MOST_PLACES)


def _check_shaped(web):
    check_web(web)
    if len(pieces(web)) > 1 or not 1 <= web.most <= _MOST_TIES:
        raise InvalidOperation("the web has several pieces, or no tie, or a place with more than four ties")


def _ties_into(web, place, places):
    return len([other for other in web[place] if other in places])


def _thin_places(web, places, number):
    """Return those of the places that are tied to at most so many of them."""
    return [place for place in places if _ties_into(web, place, places) <= number]


def _peeled(web):
    """Return all places, each with its ties to those behind it: always one with the fewest ties to what is left."""
    left = list(range(web.size))
    found = []
    while left:
        ties = {place: _ties_into(web, place, left) for place in left}
        thin = min(left, key=lambda place: ties[place])
        found.append((thin, ties[thin]))
        left = [place for place in left if place != thin]
    return found


def _are_lots(web, one, other):
    """Tell whether two values part the places into two odd sets, each as large as any degree, with all ties between."""
    if not web.is_apart(one) or not web.is_apart(other):
        return False
    fits = len(one) == web.most and len(other) == web.most and len(web.ties) == web.most * web.most
    return fits and web.most & 1 == 1 and sorted([*one, *other]) == list(range(web.size))
