"""A duty plan: people share works evenly, and works that clash have unlike people, while both come and go."""

from levelhues.base.checks import ascends, check_within, is_integer
from levelhues.base.webs import Web
from levelhues.errors import InvalidNumber, InvalidOperation, NothingToUndo, Refused, TooMany, UnknownName
from levelhues.level.finding import nearest_level

MAX_WORKS = 10
MAX_PEOPLE = 10
_LONGEST_NAME = 8
_LETTERS = "abcdefghijklmnopqrstuvwxyz"
# The people of a plan have lesser numbers.
_NOBODY = 10


class Duties:
    """How a plan is at one time: so many people, the works, who has each of them, and the clashes; it never changes."""

    def __init__(self, crew, names, row, pairs):
        self.crew = crew
        self.names = names
        self.row = row
        self.pairs = pairs


class Plan:
    """Works under names, clashes between works, and people who have them: right and level at any time."""

    def __init__(self, people):
        check_within(people, 1, MAX_PEOPLE)
        self._now = Duties(people, (), (), ())
        # What was, is and can be again, in order; the plan stands at one index of it.
        self._line = (self._now,)
        self._at = 0

    @property
    def people(self):
        """The number of the people."""
        return self._now.crew

    @property
    def works(self):
        """The dict from the names of the works to the people who have them."""
        return {name: person for name, person in zip(self._now.names, self._now.row)}

    @property
    def clashes(self):
        """The ascending tuple of the pairs of names of works that clash, the lesser name first."""
        return self._now.pairs

    @property
    def loads(self):
        """The tuple of the numbers of works of the people."""
        return tuple([self._now.row.count(person) for person in range(self._now.crew)])

    @property
    def web(self):
        """The web whose places are the works in the order of their names, with the clashes as ties, or None."""
        return _web_of(self._now.names, self._now.pairs) if self._now.names else None

    def add_work(self, name, clashes=()):
        """Add a work that clashes with some works; return the names of the works that were moved."""
        if not _is_name(name):
            raise InvalidOperation("no name of one to eight letters from a to z")
        if not isinstance(clashes, tuple) or not all([_is_name(other) for other in clashes]) or not ascends(clashes):
            raise InvalidOperation("the clashes are no ascending tuple of names")
        if name in self:
            raise InvalidOperation("a work has the name")
        for other in clashes:
            self._check_work(other)
        if len(self) >= MAX_WORKS:
            raise TooMany(MAX_WORKS)
        pairs = [*self._now.pairs, *[_pair_of(name, other) for other in clashes]]
        return self._change(self._now.crew, [*self._now.names, name], pairs)

    def drop_work(self, name):
        """Take a work and its clashes away; return the names of the works that were moved."""
        self._check_work(name)
        names = [other for other in self._now.names if other != name]
        return self._change(self._now.crew, names, [pair for pair in self._now.pairs if name not in pair])

    def clash(self, one, other):
        """Have two works clash; return the names of the works that were moved."""
        self._check_work(one)
        self._check_work(other)
        if one == other or _pair_of(one, other) in self._now.pairs:
            raise InvalidOperation("both are one work, or clash already")
        return self._change(self._now.crew, self._now.names, [*self._now.pairs, _pair_of(one, other)])

    def unclash(self, one, other):
        """Have two works clash no more; return the names of the works that were moved, which is none."""
        self._check_work(one)
        self._check_work(other)
        pair = _pair_of(one, other)
        if pair not in self._now.pairs:
            raise InvalidOperation("the works do not clash")
        return self._change(self._now.crew, self._now.names, [known for known in self._now.pairs if known != pair])

    def hire(self):
        """Add one of the people, with the next number; return the names of the works that were moved."""
        if self._now.crew >= MAX_PEOPLE:
            raise TooMany(MAX_PEOPLE)
        return self._change(self._now.crew + 1, self._now.names, self._now.pairs)

    def dismiss(self):
        """Take away the one with the greatest number; return the names of the works that were moved."""
        if self._now.crew == 1:
            raise Refused("last")
        return self._change(self._now.crew - 1, self._now.names, self._now.pairs)

    def of(self, number):
        """Return the ascending tuple of the names of the works of one of the people."""
        check_within(number, 0, self._now.crew - 1)
        return tuple([name for name, person in zip(self._now.names, self._now.row) if person == number])

    def undo(self, *, many=1):
        """Take back so many changes; return how many can then be taken back."""
        _check_many(many, self._at)
        self._stand_at(self._at - many)
        return self._at

    def redo(self, *, many=1):
        """Do so many changes again; return how many can then be taken back."""
        _check_many(many, len(self._line) - 1 - self._at)
        self._stand_at(self._at + many)
        return self._at

    def attempt(self):
        """Return what gives the plan to a `with`, behind whose block the plan is as it was."""
        return Attempt(self)

    def during(self, call):
        """Return what a call with the plan returns; the plan is then as it was."""
        with self.attempt():
            return call(self)

    def twin(self):
        """Return an independent equal plan, with the same changes to take back and to do again."""
        other = Plan(self._now.crew)
        other._line = self._line
        other._stand_at(self._at)
        return other

    def __getitem__(self, at):
        """Return who has a work."""
        self._check_work(at)
        return self._now.row[self._now.names.index(at)]

    def __contains__(self, x):
        """Tell whether any value is the name of a work."""
        return isinstance(x, str) and x in self._now.names

    def __iter__(self):
        """Go through the names of the works, ascending, as they are now."""
        return iter(self._now.names)

    def __len__(self):
        """Return the number of works."""
        return len(self._now.names)

    def __eq__(self, other):
        return (
            isinstance(other, Plan) and self.people == other.people and self.works == other.works
            and self.clashes == other.clashes
        )

    def __str__(self):
        return f"plan of {len(self._now.names)} works, {len(self._now.pairs)} clashes, {self._now.crew} people"

    def _check_work(self, name):
        if name not in self:
            raise UnknownName(name)

    def _stand_at(self, at):
        self._at = at
        self._now = self._line[at]

    def _change(self, crew, names, pairs):
        """Change people, works and clashes, with as few works moved as may be; return the names of these works."""
        held = self.works
        ordered = tuple(sorted(names))
        # Works without a person who stays are free to go to anyone.
        wanted = tuple([held.get(name, _NOBODY) for name in ordered])
        web = _web_of(ordered, pairs) if ordered else None
        row = () if web is None else nearest_level(web, crew, wanted)
        if row is None:
            raise Refused("level")
        self._line = (*self._line[:self._at + 1], Duties(crew, ordered, row, tuple(sorted(pairs))))
        self._stand_at(self._at + 1)
        return tuple([name for name, person in zip(ordered, row) if name in held and held[name] != person])


class Attempt:
    """A block with a plan that is then as it was; blocks can lie within one another."""

    def __init__(self, plan):
        self._plan = plan
        self._before = None

    def __enter__(self):
        self._before = Before(self._plan, self._before)
        return self._plan

    def __exit__(self, kind, value, trace):
        plan = self._plan
        plan._now = self._before.now
        plan._line = self._before.line
        plan._at = self._before.at
        self._before = self._before.outer


class Before:
    """How a plan was when a block was entered, and what was held for the block around it."""

    def __init__(self, plan, outer):
        self.now = plan._now
        self.line = plan._line
        self.at = plan._at
        self.outer = outer


def _is_name(value):
    if not isinstance(value, str) or not 1 <= len(value) <= _LONGEST_NAME:
        return False
    return all([letter in _LETTERS for letter in value])


def _pair_of(one, other):
    return (min(one, other), max(one, other))


def _check_many(many, most):
    if not is_integer(many) or many < 0:
        raise InvalidNumber(many)
    if many > most:
        raise NothingToUndo(many)


def _web_of(names, pairs):
    """Return the web whose places are the works in the order of their names."""
    ties = [(names.index(one), names.index(other)) for one, other in pairs]
    return Web(len(names), tuple(sorted(ties)))
