"""Ways from colouring to colouring, by moves or by pieces, and the closed classes that bar them."""

from levelhues.base.checks import ascends, is_within
from levelhues.base.rows import MAX_PLACES
from levelhues.errors import InvalidOperation, TooMany
from levelhues.hue.judged import check_colouring, check_hues, is_colouring, open_hues, piece_in
from levelhues.level.promised import thickness, thin_order

MAX_ROWS = 2000


def walked(web, hues, row, steps, *, pieces=False):
    """Return the colouring to which a way leads from a row."""
    check_colouring(web, hues, row)
    _check_boolean(pieces)
    goal = _goal(web, hues, row, steps, pieces)
    if goal is None:
        raise InvalidOperation("no way from the row")
    return goal


def way(web, hues, row, other, *, pieces=False):
    """Return a way from a colouring to another one, or None if there is none."""
    _check_both(web, hues, row, other, pieces)
    _check_size(web)
    if _are_plenty(web, hues, pieces):
        return _way_in_order(web, hues, row, other, pieces)
    _check_rows(web, hues)
    came = _reached(web, hues, row, pieces)
    return _steps_to(came, other) if other in came else None


def is_way(web, hues, row, other, value, *, pieces=False):
    """Tell whether the value is a way from the one colouring to the other one."""
    _check_both(web, hues, row, other, pieces)
    return _goal(web, hues, row, value, pieces) == other


def closed_class(web, hues, row, other, *, pieces=False):
    """Return a closed class that has the row and not the other one, or None if there is none."""
    _check_both(web, hues, row, other, pieces)
    _check_size(web)
    if _are_plenty(web, hues, pieces):
        return None
    _check_rows(web, hues)
    came = _reached(web, hues, row, pieces)
    return None if other in came else tuple(sorted(came))


def is_closed_class(web, hues, value, *, pieces=False):
    """Tell whether the value is an ascending tuple of colourings from which no step leads to any other one."""
    check_hues(web, hues)
    _check_boolean(pieces)
    if not isinstance(value, tuple) or not all([is_colouring(web, hues, row) for row in value]) or not ascends(value):
        return False
    among = {row: True for row in value}
    for row in value:
        if not all([goal in among for goal in _next_rows(web, hues, row, pieces)]):
            return False
    return True


def classes_of(web, hues, *, pieces=False):
    """Return the least closed classes, ascending, that together have each colouring once."""
    check_hues(web, hues)
    _check_boolean(pieces)
    _check_size(web)
    _check_rows(web, hues)
    seen = {}
    found = []
    for row in _all_colourings(web, hues):
        if row not in seen:
            found.append(tuple(sorted(_reached(web, hues, row, pieces))))
            for known in found[-1]:
                seen[known] = True
    return tuple(found)


def is_frozen(web, hues, value):
    """Tell whether the value is a colouring in which no place is movable."""
    if not is_colouring(web, hues, value):
        return False
    return not any([open_hues(web, hues, value, place) for place in range(web.size)])


def _check_boolean(value):
    if value is not True and value is not False:
        raise InvalidOperation("no boolean")


def _check_both(web, hues, row, other, pieces):
    check_colouring(web, hues, row)
    check_colouring(web, hues, other)
    _check_boolean(pieces)


def _check_size(web):
    if web.size > MAX_PLACES:
        raise TooMany(MAX_PLACES)


def _check_rows(web, hues):
    many = 1
    for _ in range(web.size):
        many = many * hues
    if many > MAX_ROWS:
        raise TooMany(MAX_ROWS)


def _are_plenty(web, hues, pieces):
    """Tell whether there are as many hues as [16.3] wants, so that ways lead from each colouring to each other one."""
    return hues >= thickness(web) + (1 if pieces else 2)


def _is_step(web, hues, worn, step, pieces):
    if not isinstance(step, tuple) or len(step) != 2:
        return False
    place, hue = step
    if not is_within(place, 0, web.size - 1) or not is_within(hue, 0, hues - 1) or worn[place] == hue:
        return False
    return pieces or hue not in [worn[other] for other in web[place]]


def _take(web, worn, step):
    """Change a dict from places to hues by a step in the web of these places."""
    # Where a place is movable to a hue, its piece with this hue is the place alone: a move is a step by a piece, too.
    place, hue = step
    both = worn[place] + hue
    for other in piece_in(web, worn, place, hue):
        worn[other] = both - worn[other]


def _goal(web, hues, row, steps, pieces):
    """Return the colouring to which the steps lead, or None if they are no way."""
    if not isinstance(steps, tuple):
        return None
    worn = dict(enumerate(row))
    for step in steps:
        if not _is_step(web, hues, worn, step, pieces):
            return None
        _take(web, worn, step)
    return tuple(worn.values())


def _next_rows(web, hues, row, pieces):
    """Return the dict from the colourings to which one step leads to such steps."""
    found = {}
    for place in range(web.size):
        for hue in _hues_for(web, hues, row, place, pieces):
            worn = dict(enumerate(row))
            _take(web, worn, (place, hue))
            found[tuple(worn.values())] = (place, hue)
    return found


def _hues_for(web, hues, row, place, pieces):
    """Return the hues with which there is a step at a place."""
    if not pieces:
        return open_hues(web, hues, row, place)
    return tuple([hue for hue in range(hues) if hue != row[place]])


def _reached(web, hues, row, pieces):
    """Return the dict from the colourings to which ways lead to the one ahead and the step from there."""
    came = {row: None}
    ahead = [row]
    while ahead:
        at = ahead.pop(0)
        for goal, step in _next_rows(web, hues, at, pieces).items():
            if goal not in came:
                came[goal] = (at, step)
                ahead.append(goal)
    return came


def _steps_to(came, goal):
    steps = []
    while came[goal] is not None:
        goal, step = came[goal]
        steps.append(step)
    return tuple(steps[::-1])


def _all_colourings(web, hues):
    rows = [()]
    for place in range(web.size):
        near = [other for other in web[place] if other < place]
        rows = [(*row, hue) for row in rows for hue in range(hues) if not [at for at in near if row[at] == hue]]
    return rows


def _way_in_order(web, hues, row, other, pieces):
    """Return a way that is made for the places of a thin order, one after another, as [16.4] tells."""
    steps = []
    ahead = []
    for place in thin_order(web, thickness(web)):
        ahead.append(place)
        worn = {at: row[at] for at in ahead}
        steps = _with_next(web, hues, worn, steps, (place, other[place]), pieces)
    return tuple(steps)


def _with_next(web, hues, worn, steps, last, pieces):
    """Return the steps that become of some for the places ahead if the next one goes along, and takes the last step."""
    place = last[0]
    near = [other for other in web[place] if other in worn]
    found = []
    for step in steps:
        if _meets(worn, near, place, step, pieces):
            barred = [worn[place], *[worn[other] for other in near]]
            aside = (place, min([hue for hue in range(hues) if hue not in barred]))
            _take(web, worn, aside)
            found.append(aside)
        _take(web, worn, step)
        found.append(step)
    return found if worn[place] == last[1] else [*found, last]


def _meets(worn, near, place, step, pieces):
    """Tell whether the next place is in the way of a step of the places ahead."""
    at, hue = step
    if not pieces:
        return at in near and worn[place] == hue
    both = [worn[at], hue]
    if worn[place] not in both:
        return False
    # Tied to one place of the other hue, it goes along with this one's piece; tied to more, it could join two pieces.
    facing = worn[at] + hue - worn[place]
    return len([other for other in near if worn[other] == facing]) > 1
