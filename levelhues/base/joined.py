"""Webs made of a few numbers, and what can be seen of a web: its pieces, sides, odd rings and greatest sets."""

from levelhues.base.checks import check_within, is_arrangement, is_within
from levelhues.base.rows import MAX_PLACES
from levelhues.base.webs import Web, check_web, web_of
from levelhues.errors import InvalidOperation, InvalidRow

LEAST_RING = 3


def ring(size):
    """Return the web in which each place is tied to the next one, and the last one to the place 0."""
    check_within(size, LEAST_RING, MAX_PLACES)
    return Web.path(size).tied(0, size - 1)


def parted(parts):
    """Return the web with parts of these sizes, and all ties between places of unlike parts."""
    if not _are_part_sizes(parts):
        raise InvalidOperation("the parts are no tuple of 1 to 10 sizes with a sum of at most 10")
    web = Web(parts[0])
    for size in parts[1:]:
        web = web + Web(size)
    return web


def tree(parents):
    """Return the web in which each place but the first one is tied to its parent, a lesser place."""
    if not _are_parents(parents):
        raise InvalidOperation("the parents are no tuple of at most nine lesser places")
    ties = [(parent, at + 1) for at, parent in enumerate(parents)]
    return Web(len(parents) + 1, tuple(sorted(ties)))


def rearranged(web, row):
    """Return the web in which the place `row[place]` stands for each place."""
    check_web(web)
    if not is_arrangement(row, web.size):
        raise InvalidRow("no tuple with each place once")
    ties = [(min(row[one], row[other]), max(row[one], row[other])) for one, other in web.ties]
    return web_of(web.size, tuple(sorted(ties)))


def pieces(web):
    """Return the tuple of the pieces, ascending, each an ascending tuple of places."""
    check_web(web)
    parts = {}
    lines = _lines(web)
    for place in range(web.size):
        parts.setdefault(lines[place][0], []).append(place)
    return tuple([tuple(parts[root]) for root in sorted(parts)])


def sides(web):
    """Return two ascending tuples that part the places, both apart, or None if there are none."""
    check_web(web)
    lines = _lines(web)
    if _odd_tie(web, lines) is not None:
        return None
    odd = [place for place in range(web.size) if not _is_even(lines[place])]
    even = [place for place in range(web.size) if _is_even(lines[place])]
    return (tuple(odd), tuple(even))


def odd_ring(web):
    """Return an odd number of places, each tied to the next one and the last one to the first one, or None."""
    check_web(web)
    lines = _lines(web)
    tie = _odd_tie(web, lines)
    if tie is None:
        return None
    one, other = lines[tie[0]], lines[tie[1]]
    # Both lines begin at one place; the ring goes down the one and up the other from where they part.
    shared = len([at for at in range(len(one)) if one[:at + 1] == other[:at + 1]])
    return (*one[shared - 1:], *other[shared:][::-1])


def is_odd_ring(web, value):
    """Tell whether the value is a ring of an odd number of places, at least three, in their order."""
    check_web(web)
    if not isinstance(value, tuple) or len(value) < LEAST_RING or len(value) & 1 == 0:
        return False
    if not all([is_within(place, 0, web.size - 1) for place in value]) or len(set(value)) < len(value):
        return False
    return all([web.are_tied(one, other) for one, other in zip(value, [*value[1:], value[0]])])


def greatest_apart(web):
    """Return an ascending tuple with the most places that are apart."""
    check_web(web)
    return tuple(sorted(_most_apart(web, list(range(web.size)))))


def greatest_clique(web):
    """Return an ascending tuple with the most places that are a clique."""
    check_web(web)
    return greatest_apart(~web)


def _are_part_sizes(value):
    if not isinstance(value, tuple) or not 1 <= len(value) <= MAX_PLACES:
        return False
    return all([is_within(size, 1, MAX_PLACES) for size in value]) and sum(value) <= MAX_PLACES


def _are_parents(value):
    if not isinstance(value, tuple) or len(value) >= MAX_PLACES:
        return False
    return all([is_within(parent, 0, at) for at, parent in enumerate(value)])


def _lines(web):
    """Return for each place a tuple of places, each tied to the next one, from the first one of its piece to it."""
    lines = {}
    for root in range(web.size):
        if root not in lines:
            lines[root] = (root,)
            _draw_lines(web, root, lines)
    return lines


def _draw_lines(web, root, lines):
    ahead = [root]
    while ahead:
        place = ahead.pop(0)
        for other in web[place]:
            if other not in lines:
                lines[other] = (*lines[place], other)
                ahead.append(other)


def _is_even(line):
    return len(line) & 1 == 0


def _odd_tie(web, lines):
    """Return the first tie between places whose lines are both even, or both odd, or None."""
    for one, other in web.ties:
        if _is_even(lines[one]) == _is_even(lines[other]):
            return (one, other)
    return None


def _most_apart(web, places):
    """Return a list with the most of these places that are apart."""
    if not places:
        return []
    near = {place: _within(web[place], places) for place in places}
    lone = min(places, key=lambda at: len(near[at]))
    if len(near[lone]) <= 1:
        # A place with one neighbour can stand in for it, so it can be taken without a look at other ways.
        return [lone, *_most_apart(web, _without(places, [lone, *near[lone]]))]
    busy = max(places, key=lambda at: len(near[at]))
    taken = [busy, *_most_apart(web, _without(places, [busy, *near[busy]]))]
    left = _most_apart(web, _without(places, [busy]))
    return taken if len(taken) >= len(left) else left


def _within(places, others):
    return [place for place in places if place in others]


def _without(places, others):
    return [place for place in places if place not in others]
