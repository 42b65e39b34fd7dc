"""Rows of hues: their sizes, their classes, and which of them are level or alike."""

from levelhues.base.checks import check_within, is_ascending, is_integer
from levelhues.errors import InvalidOperation, InvalidRow

MAX_PLACES = 10
MAX_HUES = 20
MOST_PLACES = 20


def is_row(value):
    """Tell whether the value is a tuple of 1 to 20 integers of at least 0."""
    if not isinstance(value, tuple) or not 1 <= len(value) <= MOST_PLACES:
        return False
    return all([is_integer(hue) and hue >= 0 for hue in value])


def sizes(row, hues):
    """Return the tuple of the sizes of all hues."""
    _check_hued(row, hues)
    return tuple([row.count(hue) for hue in range(hues)])


def spread(row, hues):
    """Return the greatest size less the least one."""
    found = sizes(row, hues)
    return max(found) - min(found)


def is_level(row, hues):
    """Tell whether the sizes of each two hues are equal or one apart."""
    return spread(row, hues) <= 1


def classes(row, hues):
    """Return the tuple with the ascending tuple of the places of each hue."""
    _check_hued(row, hues)
    return tuple([_places_of(row, hue) for hue in range(hues)])


def row_of(parts):
    """Return the row that has these classes."""
    if not _are_parts(parts):
        raise InvalidOperation("the parts do not part the places")
    hue_of = {place: hue for hue, part in enumerate(parts) for place in part}
    return tuple([hue_of[place] for place in range(len(hue_of))])


def level_sizes(size, hues):
    """Return the sizes of a level row of so many places, the greater ones first."""
    check_within(size, 1, MOST_PLACES)
    check_within(hues, 1, MAX_HUES)
    least, greater = divmod(size, hues)
    return tuple([least + 1 if hue < greater else least for hue in range(hues)])


def exchanged(row, hues, one, other):
    """Return the row with two hues exchanged."""
    _check_row(row)
    check_within(hues, 1, MAX_HUES)
    check_within(one, 0, hues - 1)
    check_within(other, 0, hues - 1)
    _check_below(row, hues)
    instead = {one: other, other: one}
    return tuple([instead.get(hue, hue) for hue in row])


def renamed(row):
    """Return the row that parts the places alike, with hues in the order of their first places."""
    _check_row(row)
    numbers = {}
    for hue in row:
        if hue not in numbers:
            numbers[hue] = len(numbers)
    return tuple([numbers[hue] for hue in row])


def are_alike(row, other):
    """Tell whether two rows part the places alike."""
    _check_row(row)
    _check_row(other)
    if len(row) != len(other):
        raise InvalidOperation("the rows have not equally many places")
    return renamed(row) == renamed(other)


def _check_row(row):
    if not is_row(row):
        raise InvalidRow("no tuple of 1 to 20 integers of at least 0")


def _check_below(row, hues):
    if max(row) >= hues:
        raise InvalidRow("the row has a hue that is not there")


def _check_hued(row, hues):
    _check_row(row)
    check_within(hues, 1, MAX_HUES)
    _check_below(row, hues)


def _places_of(row, hue):
    return tuple([place for place, worn in enumerate(row) if worn == hue])


def _are_parts(parts):
    if not isinstance(parts, tuple) or not 1 <= len(parts) <= MAX_HUES:
        return False
    if not all([is_ascending(part) for part in parts]):
        return False
    places = sorted([place for part in parts for place in part])
    return 1 <= len(places) <= MOST_PLACES and places == list(range(len(places)))
