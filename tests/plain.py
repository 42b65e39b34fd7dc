"""Plain looks at all sets, rows and ways, against which the tests hold the results for small webs."""

import itertools
import random

from levelhues.base.webs import Web, web_of


def pairs_below(size):
    """All pairs of places, the lesser one first, ascending."""
    return tuple(itertools.combinations(range(size), 2))


def ascending_tuples(size):
    """All ascending tuples of places."""
    return [chosen for many in range(size + 1) for chosen in itertools.combinations(range(size), many)]


def are_tied(web, one, other):
    return other in web[one]


def is_apart(web, places):
    return not any(are_tied(web, one, other) for one, other in itertools.combinations(places, 2))


def is_clique(web, places):
    return all(are_tied(web, one, other) for one, other in itertools.combinations(places, 2))


def is_proper(web, row):
    return all(row[one] != row[other] for one, other in web.ties)


def is_level(row, hues):
    counted = [list(row).count(hue) for hue in range(hues)]
    return max(counted) - min(counted) <= 1


def all_rows(web, hues):
    return itertools.product(range(hues), repeat=web.size)


def all_colourings(web, hues):
    return [row for row in all_rows(web, hues) if is_proper(web, row)]


def level_colourings(web, hues):
    return [row for row in all_colourings(web, hues) if is_level(row, hues)]


def has_level(web, hues):
    if hues >= web.size:
        return True
    return any(is_proper(web, row) and is_level(row, hues) for row in all_rows(web, hues))


def is_movable(web, row, place, hue):
    return row[place] != hue and hue not in [row[other] for other in web[place]]


def is_chain(web, hues, row, one, other, value):
    """Tell by the words of the document whether a tuple of pairs of integers is a chain."""
    if not value or not all(0 <= place < web.size and 0 <= hue < hues for place, hue in value):
        return False
    at, seen = one, [one]
    for place, hue in value:
        if row[place] != at or not is_movable(web, row, place, hue) or hue in seen:
            return False
        at = hue
        seen.append(hue)
    return at == other


def all_chains(web, hues, row, one, other):
    """All chains from a hue to another one."""
    found, ahead = [], [((), (one,))]
    while ahead:
        steps, passed = ahead.pop()
        if passed[-1] == other and steps:
            found.append(steps)
            continue
        for place, hue in itertools.product(range(web.size), range(hues)):
            if row[place] == passed[-1] and hue not in passed and is_movable(web, row, place, hue):
                ahead.append(((*steps, (place, hue)), (*passed, hue)))
    return found


def is_closed_set(web, row, other, value):
    """Tell by the words of the document whether an ascending tuple of hues is a closed set."""
    outside = [place for place in range(web.size) if row[place] not in value]
    near = [[row[beside] for beside in web[place]] for place in outside]
    return other in value and all(hue in hues for hues in near for hue in value)


def shift(row, steps):
    row = list(row)
    for place, hue in steps:
        row[place] = hue
    return tuple(row)


def some_webs(seed, many, least, greatest):
    """Webs with so many places, thin ones and thick ones, always the same for a seed."""
    chance = random.Random(seed)
    webs = []
    for _ in range(many):
        size = chance.randint(least, greatest)
        part = chance.choice((0.1, 0.25, 0.5, 0.75, 0.9))
        webs.append(web_of(size, tuple(pair for pair in pairs_below(size) if chance.random() < part)))
    return webs


def bounded_web(chance, size, most):
    """A web in which ties are added as long as no place has more than so many."""
    degrees, ties = [0] * size, []
    pairs = list(pairs_below(size))
    chance.shuffle(pairs)
    for one, other in pairs:
        if degrees[one] < most and degrees[other] < most:
            degrees[one] += 1
            degrees[other] += 1
            ties.append((one, other))
    return web_of(size, tuple(sorted(ties)))


def round_web(size, distances):
    """A web in which each place is tied to those that are so far from it in a ring: all have equally many ties."""
    ties = {tuple(sorted((place, (place + by) % size))) for place in range(size) for by in distances}
    return web_of(size, tuple(sorted(ties)))


def side_by_side(*webs):
    whole = webs[0]
    for web in webs[1:]:
        whole = whole | web
    return whole


FULL = Web.full(10) + Web.full(10)
BARE = Web(10) | Web(10)
LOTS = Web(10) + Web(10)
TRIANGLES = side_by_side(*[Web.full(3)] * 6, Web.full(2))
# Each place of these has as many ties as any.
TIGHT = [
    FULL, BARE, LOTS, side_by_side(*[Web.full(4)] * 5), side_by_side(*[Web.full(5)] * 4),
    side_by_side(Web.full(10), Web.full(10)), side_by_side(*[Web(3) + Web(3)] * 3), side_by_side(*[Web(5) + Web(5)] * 2),
    side_by_side(Web.full(4), *[Web(3) + Web(3)] * 2, Web.full(4)), round_web(20, (1,)), round_web(20, (1, 10)),
    round_web(20, (1, 2)), round_web(20, (1, 2, 3)), round_web(19, (1, 2, 3, 4)), round_web(19, (1, 4, 7)),
    round_web(20, (1, 3, 5, 7, 9)), round_web(20, (2, 5, 10)), round_web(17, (1, 2, 4, 8)), round_web(13, (1, 3, 4)),
    round_web(18, (1, 2, 3, 4, 5, 6, 7, 8)), ~round_web(20, (1,)), ~round_web(20, (10,)), ~round_web(15, (1, 2)),
    ~side_by_side(*[Web.full(4)] * 5), ~side_by_side(*[Web.full(5)] * 4), ~side_by_side(*[Web(3) + Web(3)] * 3),
]
