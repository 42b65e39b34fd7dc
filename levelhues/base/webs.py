"""Webs: places that are numbered from 0, some of which are tied."""

from levelhues.base.checks import are_places, ascends, check_within, is_within
from levelhues.base.rows import MAX_PLACES, MOST_PLACES
from levelhues.errors import InvalidOperation, InvalidWeb, TooMany


class Web:
    """A web with some places and ties; it never changes."""

    def __init__(self, size, ties=()):
        if not is_within(size, 1, MAX_PLACES):
            raise InvalidWeb("the size is no integer from 1 to 10")
        if not _are_ties(ties, size):
            raise InvalidWeb("the ties are no ascending tuple of pairs of places")
        self._size = size
        self._ties = ties
        self._beside = _neighbours(size, ties)

    @classmethod
    def path(cls, size):
        """Return the web in which each place but the last one is tied to the next one."""
        check_within(size, 1, MAX_PLACES)
        return cls(size, tuple([(place, place + 1) for place in range(size - 1)]))

    @classmethod
    def full(cls, size):
        """Return the web in which all places are tied."""
        check_within(size, 1, MAX_PLACES)
        return cls(size, _all_pairs(size))

    @property
    def size(self):
        """The number of places."""
        return self._size

    @property
    def ties(self):
        """The ascending tuple of the ties."""
        return self._ties

    @property
    def degrees(self):
        """The tuple of the degrees of all places."""
        return tuple([len(places) for places in self._beside])

    @property
    def most(self):
        """The greatest degree."""
        return max([len(places) for places in self._beside])

    def are_tied(self, one, other):
        """Tell whether two places are tied."""
        self._check_place(one)
        self._check_place(other)
        return other in self._beside[one]

    def is_apart(self, value):
        """Tell whether the value is an ascending tuple of places, no two of which are tied."""
        return are_places(value, self._size) and not self._ties_among(value)

    def is_clique(self, value):
        """Tell whether the value is an ascending tuple of places, each two of which are tied."""
        return are_places(value, self._size) and len(self._ties_among(value)) == len(_all_pairs(len(value)))

    def part(self, places):
        """Return the web of these places, numbered anew, with the ties between them."""
        if not are_places(places, self._size) or not places:
            raise InvalidOperation("no ascending tuple of places, or an empty one")
        ties = [(places.index(one), places.index(other)) for one, other in self._ties_among(places)]
        return web_of(len(places), tuple(ties))

    def without(self, place):
        """Return the web of all other places."""
        self._check_place(place)
        if self._size == 1:
            raise InvalidOperation("there is no other place")
        return self.part(tuple([kept for kept in range(self._size) if kept != place]))

    def tied(self, one, other):
        """Return the web with the tie of two places."""
        tie = self._tie_of(one, other)
        return web_of(self._size, tuple(sorted([*self._ties_but(tie), tie])))

    def untied(self, one, other):
        """Return the web without the tie of two places."""
        return web_of(self._size, tuple(self._ties_but(self._tie_of(one, other))))

    def __or__(self, other):
        """Return the web of both side by side: first the own places, then the other ones."""
        self._check_room(other)
        return web_of(self._size + other._size, tuple([*self._ties, *_moved(other._ties, self._size)]))

    def __add__(self, other):
        """Return the web of both side by side, with all ties between a place of each."""
        self._check_room(other)
        both = self._size + other._size
        between = [(one, place) for one in range(self._size) for place in range(self._size, both)]
        return web_of(both, tuple(sorted([*self._ties, *_moved(other._ties, self._size), *between])))

    def __and__(self, other):
        """Return the web with the ties that both have."""
        self._check_equal_size(other)
        return web_of(self._size, tuple([tie for tie in self._ties if other._has_tie(tie)]))

    def __sub__(self, other):
        """Return the web with the ties that the other one does not have."""
        self._check_equal_size(other)
        return web_of(self._size, tuple([tie for tie in self._ties if not other._has_tie(tie)]))

    def __invert__(self):
        """Return the web with just the ties that this one does not have."""
        return web_of(self._size, tuple([tie for tie in _all_pairs(self._size) if not self._has_tie(tie)]))

    def __getitem__(self, at):
        """Return the ascending tuple of the places to which a place is tied."""
        self._check_place(at)
        return self._beside[at]

    def __contains__(self, x):
        """Tell whether any value is a tie."""
        return _is_tie(x, self._size) and self._has_tie(x)

    def __iter__(self):
        """Go through the ties, ascending."""
        return iter(self._ties)

    def __len__(self):
        """Return the number of places."""
        return len(self._beside)

    def __eq__(self, other):
        return isinstance(other, Web) and self._size == other._size and self._ties == other._ties

    def __str__(self):
        return f"web of {self._size} places, {len(self._ties)} ties"

    def _check_place(self, place):
        check_within(place, 0, self._size - 1)

    def _check_room(self, other):
        check_web(other)
        if self._size + other._size > MOST_PLACES:
            raise TooMany(MOST_PLACES)

    def _check_equal_size(self, other):
        check_web(other)
        if self._size != other._size:
            raise InvalidOperation("the webs have not equally many places")

    def _has_tie(self, pair):
        return pair[1] in self._beside[pair[0]]

    def _tie_of(self, one, other):
        self._check_place(one)
        self._check_place(other)
        if one == other:
            raise InvalidOperation("a place cannot be tied to itself")
        return (min(one, other), max(one, other))

    def _ties_but(self, tie):
        return [kept for kept in self._ties if kept != tie]

    def _ties_among(self, places):
        return [(one, other) for one, other in self._ties if one in places and other in places]


def check_web(value):
    """Raise InvalidWeb if the value is no web."""
    if not isinstance(value, Web):
        raise InvalidWeb("no web")


def web_of(size, ties):
    """Return the web with these ties, which are not checked, of up to 20 places."""
    # The constructor takes at most ten places, but webs that are made of others can have more.
    web = Web(1)
    web._size = size
    web._ties = ties
    web._beside = _neighbours(size, ties)
    return web


def _neighbours(size, ties):
    return tuple([_tied_to(place, ties) for place in range(size)])


def _tied_to(place, ties):
    # In ascending ties the lesser neighbours ascend, and so do the greater ones.
    lesser = [one for one, other in ties if other == place]
    greater = [other for one, other in ties if one == place]
    return tuple([*lesser, *greater])


def _all_pairs(size):
    return tuple([(one, other) for one in range(size) for other in range(one + 1, size)])


def _moved(ties, by):
    return [(one + by, other + by) for one, other in ties]


def _is_tie(value, size):
    return are_places(value, size) and len(value) == 2


def _are_ties(value, size):
    # Pairs are compared only when all of them are known to be pairs of integers.
    return isinstance(value, tuple) and all([_is_tie(tie, size) for tie in value]) and ascends(value)
