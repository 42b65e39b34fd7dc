"""Colourings that part groups of places, or that share the weights of places nearly evenly."""

from levelhues.base.checks import check_within, is_ascending, is_hued, is_within
from levelhues.base.rows import MAX_HUES, MAX_PLACES, MOST_PLACES
from levelhues.base.webs import check_web
from levelhues.errors import InvalidOperation, TooMany
from levelhues.hue.judged import is_colouring

MAX_WEIGHT = 10 ** 6


def grouped_colouring(web, groups, hues):
    """Return a colouring in which no two places of one group have one hue, or None."""
    _check_groups(web, groups, hues)
    _check_size(web)
    beside = [list(web[place]) for place in range(web.size)]
    for group in groups:
        for place in group:
            beside[place].extend([other for other in group if other != place])
    # Where no place has a weight, each row shares the weights evenly.
    return _even_row(beside, (0,) * web.size, hues)


def is_grouped(web, groups, hues, value):
    """Tell whether the value is a colouring in which no two places of one group have one hue."""
    _check_groups(web, groups, hues)
    if not is_colouring(web, hues, value):
        return False
    return all([len(set([value[place] for place in group])) == len(group) for group in groups])


def weight_spread(weights, hues, row):
    """Return how much the greatest sum of the weights of a hue is more than the least one."""
    _check_some_weights(weights, hues)
    if not is_hued(row, len(weights), hues):
        raise InvalidOperation("no tuple with a hue for each weight")
    return _spread(weights, hues, row)


def weighted(web, weights, hues):
    """Return a colouring whose weight spread is at most the greatest weight, or None."""
    _check_weights(web, weights, hues)
    _check_size(web)
    return _even_row([web[place] for place in range(web.size)], weights, hues)


def is_weighted(web, weights, hues, value):
    """Tell whether the value is a colouring whose weight spread is at most the greatest weight."""
    _check_weights(web, weights, hues)
    return is_colouring(web, hues, value) and _spread(weights, hues, value) <= max(weights)


def weight_groups(weights, hues):
    """Return the groups of so many places each, taken in the order of their weights, the greatest first."""
    _check_some_weights(weights, hues)
    order = _by_weight(weights)
    return tuple([tuple(sorted(order[at:at + hues])) for at in range(0, len(order), hues)])


def _check_groups(web, groups, hues):
    check_web(web)
    if not _are_groups(groups, web.size):
        raise InvalidOperation("no groups of the web")
    check_within(hues, 1, MAX_HUES)


def _are_groups(value, size):
    if not isinstance(value, tuple) or not all([is_ascending(group) and len(group) > 0 for group in value]):
        return False
    return sorted([place for group in value for place in group]) == list(range(size))


def _check_weights(web, weights, hues):
    check_web(web)
    if not _are_weights(weights) or len(weights) != web.size:
        raise InvalidOperation("no weights of the web")
    check_within(hues, 1, MAX_HUES)


def _check_some_weights(weights, hues):
    if not _are_weights(weights) or not 1 <= len(weights) <= MOST_PLACES:
        raise InvalidOperation("no tuple of one to twenty weights")
    check_within(hues, 1, MAX_HUES)


def _are_weights(value):
    return isinstance(value, tuple) and all([is_within(weight, 0, MAX_WEIGHT) for weight in value])


def _check_size(web):
    if web.size > MAX_PLACES:
        raise TooMany(MAX_PLACES)


def _spread(weights, hues, row):
    shares = [sum([weights[at] for at, worn in enumerate(row) if worn == hue]) for hue in range(hues)]
    return max(shares) - min(shares)


def _by_weight(weights):
    """Return the places in the order of their weights, the greatest first, and of equal ones the least place first."""
    # Places with equal weights stay in their order, also where the order is turned.
    return sorted(range(len(weights)), key=lambda place: weights[place], reverse=True)


def _even_row(beside, weights, hues):
    """Return a row with unlike hues at neighbours and a weight spread of at most the greatest weight, or None."""
    if hues >= len(weights):
        return tuple(range(len(weights)))
    found = _hued_from(_by_weight(weights), beside, weights, {}, [0] * hues)
    return None if found is None else tuple([found[place] for place in range(len(weights))])


def _hued_from(order, beside, weights, worn, shares):
    """Return the dict from places to hues that goes on from a dict for the first ones of an order, or None.

    The shares are the sums of the weights of all hues.
    """
    if not _can_be_even(order[len(worn):], weights, shares):
        return None
    if len(worn) == len(order):
        return worn
    place = order[len(worn)]
    near = [worn[other] for other in beside[place] if other in worn]
    # Hues that no place has yet are alike, so that only the first of them is looked at.
    told = max(worn.values(), default=-1) + 2
    for hue in range(min(len(shares), told)):
        if hue not in near:
            more = [share + weights[place] if at == hue else share for at, share in enumerate(shares)]
            found = _hued_from(order, beside, weights, {**worn, place: hue}, more)
            if found is not None:
                return found
    return None


def _can_be_even(left, weights, shares):
    """Tell whether the weights of the places that are left suffice for a spread of at most the greatest weight."""
    least = max(shares) - max(weights)
    return sum([max(0, least - share) for share in shares]) <= sum([weights[place] for place in left])
