"""Tests without a search: trees, full parted webs, paths and rings."""

from levelhues.base.checks import check_within, is_within
from levelhues.base.joined import LEAST_RING, greatest_apart, pieces, sides
from levelhues.base.webs import check_web
from levelhues.errors import InvalidOperation

MAX_TOLD = 1000
_MOST_PARTS = 10


def is_tree(web):
    """Tell whether ties lead from each place to each other one, and there is one tie less than places."""
    check_web(web)
    return _is_forest(web) and len(pieces(web)) == 1


def forest_apart(web):
    """Return how many places of a web without a ring can be apart at most."""
    check_web(web)
    if not _is_forest(web):
        raise InvalidOperation("the web has a ring")
    return len(greatest_apart(web))


def tree_has_level(web, hues):
    """Tell by [9.1] whether a tree has a level colouring."""
    check_web(web)
    check_within(hues, 1, MAX_TOLD)
    if not is_tree(web):
        raise InvalidOperation("the web is no tree")
    if hues == 1:
        return web.size == 1
    if hues == 2:
        one, other = sides(web)
        return abs(len(one) - len(other)) <= 1
    busy = [place for place in range(web.size) if web.degrees[place] == web.most]
    return all([hues * (_apart_without(web, place) + 2) >= web.size + 1 for place in busy])


def parted_has_level(parts, hues):
    """Tell by [9.2] whether a full parted web has a level colouring."""
    _check_parts(parts)
    check_within(hues, 1, MAX_TOLD)
    if hues >= sum(parts):
        return True
    bounds = _bounds(parts, hues)
    if not all([low <= high for low, high in bounds]):
        return False
    return sum([low for low, _ in bounds]) <= hues <= sum([high for _, high in bounds])


def parted_level(parts, hues):
    """Return a parting, or None if there is none."""
    if not parted_has_level(parts, hues):
        return None
    if hues >= sum(parts):
        return tuple([(1,) * size for size in parts])
    bounds = _bounds(parts, hues)
    spare = hues - sum([low for low, _ in bounds])
    parting = []
    for size, (low, high) in zip(parts, bounds):
        more = min(spare, high - low)
        spare = spare - more
        parting.append(_shares(size, low + more))
    return tuple(parting)


def is_parting(parts, hues, value):
    """Tell whether the value is a parting."""
    _check_parts(parts)
    check_within(hues, 1, MAX_TOLD)
    if not isinstance(value, tuple) or len(value) != len(parts):
        return False
    if not all([_are_shares(shares, size) for shares, size in zip(value, parts)]):
        return False
    many = [share for shares in value for share in shares]
    least = 0 if len(many) < hues else min(many)
    return len(many) <= hues and max(many) - least <= 1


def path_has_level(size, hues):
    """Tell whether a path of so many places has a level colouring."""
    check_within(size, 1, MAX_TOLD)
    check_within(hues, 1, MAX_TOLD)
    return hues >= 2 or size == 1


def ring_has_level(size, hues):
    """Tell whether a ring of so many places has a level colouring."""
    check_within(size, LEAST_RING, MAX_TOLD)
    check_within(hues, 1, MAX_TOLD)
    return hues >= 3 or hues == 2 and size & 1 == 0


def _is_forest(web):
    # Each tie of a web without a ring makes one piece of two.
    return len(web.ties) + len(pieces(web)) == web.size


def _apart_without(web, place):
    """Return how many places can be apart at most of those that are neither a place nor tied to it."""
    others = tuple([other for other in range(web.size) if other != place and other not in web[place]])
    return len(greatest_apart(web.part(others))) if others else 0


def _check_parts(parts):
    if not isinstance(parts, tuple) or not 1 <= len(parts) <= _MOST_PARTS:
        raise InvalidOperation("no tuple of one to ten parts")
    if not all([is_within(size, 1, MAX_TOLD) for size in parts]):
        raise InvalidOperation("a part is no integer from 1 to 1000")


def _bounds(parts, hues):
    """Return for each part the least and the greatest number of hues that it can have; there are more places."""
    least = sum(parts) // hues
    return [(-(-size // (least + 1)), size // least) for size in parts]


def _shares(size, hues):
    """Return how often each of so many hues comes in a part of this size."""
    least, greater = divmod(size, hues)
    return (least + 1,) * greater + (least,) * (hues - greater)


def _are_shares(value, size):
    if not isinstance(value, tuple) or not value:
        return False
    return all([is_within(share, 1, size) for share in value]) and sum(value) == size
