"""Colourings judged, and changed at one place or at one piece of two hues."""

from levelhues.base.checks import check_within, is_arrangement, is_hued, is_integer
from levelhues.base.rows import MAX_HUES, is_level
from levelhues.base.webs import check_web
from levelhues.errors import InvalidOperation, InvalidRow, Refused


def is_colouring(web, hues, value):
    """Tell whether the value is a colouring of the web with so many hues."""
    check_hues(web, hues)
    return is_hued(value, web.size, hues) and not _clashes(web, value)


def is_level_colouring(web, hues, value):
    """Tell whether the value is a level colouring of the web with so many hues."""
    return is_colouring(web, hues, value) and is_level(value, hues)


def clashes(web, row):
    """Return the ascending tuple of the ties whose places have one hue."""
    check_web(web)
    if not isinstance(row, tuple) or len(row) != web.size:
        raise InvalidRow("no tuple with a hue for each place")
    if not all([is_integer(hue) and hue >= 0 for hue in row]):
        raise InvalidRow("a hue is no integer of at least 0")
    return _clashes(web, row)


def movable(web, hues, row, place):
    """Return the ascending tuple of the hues to which a place is movable."""
    check_colouring(web, hues, row)
    _check_place(web, place)
    return open_hues(web, hues, row, place)


def moved(web, hues, row, place, hue):
    """Return the colouring in which the place has this hue."""
    check_colouring(web, hues, row)
    _check_place(web, place)
    check_hue(hues, hue)
    if hue not in open_hues(web, hues, row, place):
        raise Refused(hue)
    return changed_row(row, {place: hue})


def piece_of(web, hues, row, place, hue):
    """Return the places that are reached from a place by ties between places with its hue or the told one."""
    check_colouring(web, hues, row)
    _check_place(web, place)
    check_hue(hues, hue)
    if row[place] == hue:
        raise InvalidOperation("the place has the told hue")
    return tuple(sorted(piece_in(web, dict(enumerate(row)), place, hue)))


def piece_exchanged(web, hues, row, place, hue):
    """Return the row in which the places of this piece have the one hue instead of the other."""
    piece = piece_of(web, hues, row, place, hue)
    both = row[place] + hue
    return changed_row(row, {other: both - row[other] for other in piece})


def greedy(web, order):
    """Return the row in which each place, in this order, gets the least hue that none of its neighbours has yet."""
    check_web(web)
    if not is_arrangement(order, web.size):
        raise InvalidRow("no tuple with each place once")
    hue_of = {}
    for place in order:
        near = [hue_of[other] for other in web[place] if other in hue_of]
        hue_of[place] = min([hue for hue in range(web.size) if hue not in near])
    return tuple([hue_of[place] for place in range(web.size)])


def check_hues(web, hues):
    """Raise InvalidWeb or InvalidNumber if there is no web, or no number of hues."""
    check_web(web)
    check_within(hues, 1, MAX_HUES)


def check_colouring(web, hues, row):
    """Raise an error if there is no web, no number of hues, or no colouring with so many."""
    if not is_colouring(web, hues, row):
        raise InvalidRow("no colouring of the web with so many hues")


def check_hue(hues, hue):
    """Raise InvalidNumber if there is no such hue."""
    check_within(hue, 0, hues - 1)


def open_hues(web, hues, row, place):
    """Return the hues to which a place is movable, without a look at the arguments."""
    closed = [row[place], *[row[other] for other in web[place]]]
    return tuple([hue for hue in range(hues) if hue not in closed])


def piece_in(web, worn, place, hue):
    """Return the list of the places of the piece of a place and another hue, in any order.

    The dict tells the hues of all places, or of some; then it is the piece in the web of these.
    """
    both = (worn[place], hue)
    piece = [place]
    ahead = [place]
    while ahead:
        near = [other for other in web[ahead.pop()] if worn.get(other) in both and other not in piece]
        piece.extend(near)
        ahead.extend(near)
    return piece


def changed_row(row, changes):
    """Return the row in which some places have the hues that a dict tells for them."""
    return tuple([changes.get(place, hue) for place, hue in enumerate(row)])


def _check_place(web, place):
    check_within(place, 0, web.size - 1)


def _clashes(web, row):
    return tuple([(one, other) for one, other in web.ties if row[one] == row[other]])
