"""Rounds of ties: found, judged, exchanged along the ways of ties, and made level."""

from levelhues.base.checks import ascends, check_within
from levelhues.base.joined import sides
from levelhues.base.webs import check_web
from levelhues.errors import InvalidOperation, Refused

MAX_ROUNDS = 20


def rounds(web, number):
    """Return so many level rounds of the web."""
    check_web(web)
    check_within(number, 1, MAX_ROUNDS)
    has_sides = sides(web) is not None
    if number < web.most or number == web.most and not has_sides:
        raise Refused(number)
    meets = [{} for _ in range(web.size)]
    for one, other in web.ties:
        if has_sides:
            _join_sides(meets, number, one, other)
        else:
            _join_by_fan(meets, number, one, other)
    return _evened([_round_in(meets, at) for at in range(number)])


def is_rounds(web, number, value, *, level=True):
    """Tell whether the value is so many rounds of the web, and with `level` whether they are level."""
    check_web(web)
    check_within(number, 1, MAX_ROUNDS)
    if level is not True and level is not False:
        raise InvalidOperation("level is no boolean")
    if not _are_rounds(web, value) or len(value) != number:
        return False
    many = [len(part) for part in value]
    return not level or max(many) - min(many) <= 1


def way_of(web, rounds, one, other, tie):
    """Return the ascending tuple of the ties of the way of a tie in two rounds."""
    _check_rounds(web, rounds)
    check_within(one, 0, len(rounds) - 1)
    check_within(other, 0, len(rounds) - 1)
    if one == other:
        raise InvalidOperation("both are one round")
    # A pair with True or False is equal to a tie, but it is none.
    if tie not in web or tie not in (*rounds[one], *rounds[other]):
        raise InvalidOperation("the tie is in neither of both rounds")
    return _way([*rounds[one], *rounds[other]], tie)


def way_exchanged(web, rounds, one, other, tie):
    """Return the rounds in which the ties of this way are moved from either of the two rounds to the other one."""
    return tuple(_moved(rounds, one, other, way_of(web, rounds, one, other, tie)))


def evened_rounds(web, rounds):
    """Return level rounds of the web, as many."""
    _check_rounds(web, rounds)
    return _evened(list(rounds))


def _check_rounds(web, value):
    check_web(web)
    if not _are_rounds(web, value):
        raise InvalidOperation("no rounds of the web")


def _are_rounds(web, value):
    if not isinstance(value, tuple) or not 1 <= len(value) <= MAX_ROUNDS:
        return False
    if not all([_is_round(web, part) for part in value]):
        return False
    return sorted([tie for part in value for tie in part]) == list(web.ties)


def _is_round(web, value):
    if not isinstance(value, tuple) or not all([tie in web for tie in value]) or not ascends(value):
        return False
    return len(set([place for tie in value for place in tie])) == 2 * len(value)


def _way(ties, tie):
    """Return the way of a tie among the ties of two rounds."""
    left = [other for other in ties if other != tie]
    found = [tie]
    ahead = [tie]
    while ahead:
        one, other = ahead.pop()
        near = [known for known in left if one in known or other in known]
        left = [known for known in left if known not in near]
        found.extend(near)
        ahead.extend(near)
    return tuple(sorted(found))


def _moved(parts, one, other, way):
    """Return the list of the rounds in which the ties of a way are moved between two of them."""
    found = list(parts)
    found[one] = _exchanged(parts[one], parts[other], way)
    found[other] = _exchanged(parts[other], parts[one], way)
    return found


def _exchanged(part, other, way):
    kept = [tie for tie in part if tie not in way]
    return tuple(sorted([*kept, *[tie for tie in other if tie in way]]))


def _evened(parts):
    """Return the rounds that are made level by ways between the longest and the shortest one."""
    while True:
        many = [len(part) for part in parts]
        most = many.index(max(many))
        least = many.index(min(many))
        if many[most] - many[least] <= 1:
            return tuple(parts)
        parts = _moved(parts, most, least, _longer_way(parts[most], parts[least]))


def _longer_way(part, other):
    """Return a way that has more ties of the one round than of the other one, which has fewer ties."""
    ways = [_way([*part, *other], tie) for tie in part]
    # Ties of both rounds come by turns along a way, so that it has at most one tie more of the one round.
    return [way for way in ways if 2 * len([tie for tie in way if tie in part]) > len(way)][0]


def _round_in(meets, at):
    """Return a round of what is told for each place: the dict from rounds to the place that it meets there."""
    found = [(place, met[at]) for place, met in enumerate(meets) if at in met]
    return tuple([(one, other) for one, other in found if one < other])


def _spare(meets, number, place):
    """Return the first round in which a place meets no other one."""
    return min([at for at in range(number) if at not in meets[place]])


def _meet(meets, at, one, other):
    meets[one][at] = other
    meets[other][at] = one


def _turn(meets, place, one, other):
    """Exchange two rounds along the way of a place that has no tie in the other one."""
    way = [place]
    following = one
    while following in meets[way[-1]]:
        way.append(meets[way[-1]][following])
        following = one + other - following
    turned = {one: other, other: one}
    for near in way:
        meets[near] = {turned.get(at, at): met for at, met in meets[near].items()}


def _join_sides(meets, number, one, other):
    """Put a tie between two sides into a round; each place has fewer ties as yet than there are rounds."""
    at = _spare(meets, number, one)
    if at in meets[other]:
        # The way comes to the side of the one place by ties of the round in which this one has none.
        _turn(meets, other, at, _spare(meets, number, other))
    _meet(meets, at, one, other)


def _join_by_fan(meets, number, one, other):
    """Put a tie into a round; there are more rounds than ties at any place, but perhaps no sides."""
    fan = _fan(meets, one, other)
    spare = _spare(meets, number, fan[-1])
    _turn(meets, one, spare, _spare(meets, number, one))
    last = _last_of_fan(meets, one, fan, spare)
    held = [_round_of(meets, one, place) for place in fan[1:last + 1]]
    for at, place in zip(held, fan[1:]):
        del meets[one][at]
        del meets[place][at]
    for at, place in zip([*held, spare], fan):
        _meet(meets, at, one, place)


def _fan(meets, one, other):
    """Return places that the one is tied to, the other first; the round of each tie is spare at the place ahead."""
    fan = [other]
    near = _next_in_fan(meets, one, fan)
    while near:
        fan.append(near[0])
        near = _next_in_fan(meets, one, fan)
    return fan


def _next_in_fan(meets, one, fan):
    return [place for at, place in meets[one].items() if at not in meets[fan[-1]] and place not in fan]


def _last_of_fan(meets, one, fan, spare):
    """Return the index of a place up to which the places are still a fan, and that has no tie in the spare round."""
    last = 0
    while spare in meets[fan[last]]:
        last = last + 1
    return last


def _round_of(meets, one, other):
    return [at for at, place in meets[one].items() if place == other][0]
