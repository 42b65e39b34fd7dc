"""Questions that many files ask of the values that they are passed."""

from levelhues.errors import InvalidNumber


def is_integer(value):
    """Tell whether the value is an integer, which True and False are not."""
    return isinstance(value, int) and not isinstance(value, bool)


def is_within(value, least, greatest):
    """Tell whether the value is an integer from the least one to the greatest one."""
    return is_integer(value) and least <= value <= greatest


def check_within(value, least, greatest):
    """Raise InvalidNumber if the value is no integer from the least one to the greatest one."""
    if not is_within(value, least, greatest):
        raise InvalidNumber(value)


def ascends(items):
    """Tell whether items that can be compared ascend, each greater than the one ahead of it."""
    return all([one < other for one, other in zip(items, items[1:])])


def is_ascending(value):
    """Tell whether the value is an ascending tuple of integers."""
    # Only integers are compared, since other values may have no order.
    return isinstance(value, tuple) and all([is_integer(item) for item in value]) and ascends(value)


def are_places(value, size):
    """Tell whether the value is an ascending tuple of places of a web with so many places."""
    return is_ascending(value) and all([0 <= place < size for place in value])


def is_arrangement(value, size):
    """Tell whether the value is a tuple with each place of a web with so many places once."""
    if not isinstance(value, tuple) or not all([is_within(place, 0, size - 1) for place in value]):
        return False
    return sorted(value) == list(range(size))


def is_hued(value, size, hues):
    """Tell whether the value is a tuple with a hue below `hues` for each of so many places."""
    return isinstance(value, tuple) and len(value) == size and all([is_within(hue, 0, hues - 1) for hue in value])
