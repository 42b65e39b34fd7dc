"""Wrong values of every kind that the document lists, and checks that the tests share."""

import itertools
import unittest

from levelhues.base.webs import Web
from levelhues.errors import (
    InvalidNumber,
    InvalidWeb,
    NoChain,
    NothingToUndo,
    ParseError,
    Refused,
    TooMany,
    UnknownName,
)
from levelhues.live.plan import Plan

RING = Web(5, ((0, 1), (0, 4), (1, 2), (2, 3), (3, 4)))
STAR = Web(6, ((0, 1), (0, 2), (0, 3), (0, 4), (0, 5)))
SIDES = Web(6, ((0, 3), (0, 4), (0, 5), (1, 3), (1, 4), (1, 5), (2, 3), (2, 4), (2, 5)))
PAIRS = Web(6, ((0, 1), (0, 2), (1, 2), (3, 4), (3, 5), (4, 5)))

# What each error that keeps something calls it.
KEPT = {
    ParseError: "line",
    UnknownName: "name",
    NoChain: "pair",
    InvalidNumber: "value",
    TooMany: "limit",
    NothingToUndo: "many",
    Refused: "reason",
}
HUGE = 10 ** 40 - 1


def nested(wrap, inner):
    """Wrap a value ten times."""
    for _ in range(10):
        inner = wrap(inner)
    return inner


def odd_values():
    """Values that are no integers and no tuples with anything in them."""
    return [
        True, False, None, "", "0", "web 5", "a\nb", "~" * 400, (), [], [0], [0, 1], [(0, 1)], {}, {0: 1},
        nested(lambda inner: [inner], 0), nested(lambda inner: {"a": inner}, 0),
        Web(1), RING, Web.full(10) | Web.path(10), InvalidWeb("web"), InvalidNumber(0), Plan(2), Plan(1).attempt(),
    ]


def odd_tuples():
    """Tuples that contain something other than integers."""
    return [
        *[(value,) for value in odd_values()],
        *[(0, value) for value in odd_values()],
        *[(value, 1) for value in odd_values()],
        nested(lambda inner: (inner,), 0), ((0,),), ((0, 1),), ((0, 1), 2), (2, (0, 1)),
    ]


def wrong_numbers(least, greatest):
    """Values that are no integers from the least one to the greatest one."""
    return [least - 1, greatest + 1, -HUGE, HUGE, *odd_values(), *odd_tuples(), (least,)]


def wrong_rows():
    """Values that are no rows."""
    return [
        0, 1, -1, HUGE, *odd_values(), *odd_tuples(), (-1,), (0, -1), (-HUGE, 0), (0,) * 19 + (-1,),
        (0,) * 19 + (True,), (0,) * 21, tuple(range(21)), (0,) * 1000,
    ]


def wrong_webs():
    """Values that are no webs."""
    return [value for value in [0, 5, HUGE, *odd_values(), *odd_tuples()] if not isinstance(value, Web)]


def any_values():
    """Values of every kind that the document lists."""
    return [
        0, 1, -1, HUGE, -HUGE, *odd_values(), *odd_tuples(), (0,), (0, 1), (0, 1, 2), [0, 1], (HUGE,), (-HUGE, 0),
        (0,) * 1000, tuple(range(30)), (RING, STAR), ("level",), {0: 0, 1: 1}, {"a": (0, 1)}, Refused("level"),
        TooMany(12), nested(lambda inner: (inner, inner), 0), ((0, 1), (1, 0)), (((0, 1),), 0), ((), ()), ((), 0),
    ]


def all_webs(most):
    """All webs with at most so many places."""
    webs = []
    for size in range(1, most + 1):
        pairs = list(itertools.combinations(range(size), 2))
        for many in range(len(pairs) + 1):
            webs.extend(Web(size, ties) for ties in itertools.combinations(pairs, many))
    return webs


def shape(value):
    """Describe a value by its kinds and contents, so that True is not 1 and a list is no tuple."""
    if isinstance(value, (tuple, list)):
        return (type(value).__name__, [shape(item) for item in value])
    if isinstance(value, dict):
        return ("dict", [(shape(key), shape(value[key])) for key in value])
    if isinstance(value, Web):
        return ("Web", value.size, repr(value.ties), repr([value[place] for place in range(value.size)]))
    if isinstance(value, Plan):
        return ("Plan", value.people, shape(value.works), repr(value.clashes))
    if isinstance(value, Exception):
        return (type(value).__name__, repr(value.args))
    return repr(value)


class Case(unittest.TestCase):
    """A test case that looks closely at results and errors."""

    def assert_same(self, result, wanted):
        """Check that two results are equal, and of the same kinds throughout."""
        self.assertEqual(shape(result), shape(wanted))

    def assert_raises(self, error, call, *arguments):
        """Check that just this error is raised, and that the arguments stay as they were."""
        before = shape(arguments)
        with self.assertRaises(error) as caught:
            call(*arguments)
        self.assertIs(type(caught.exception), error)
        self.assertEqual(shape(arguments), before)
        return caught.exception

    def assert_keeps(self, error, kept, call, *arguments):
        """Check that just this error is raised, and that it keeps just this value."""
        raised = self.assert_raises(error, call, *arguments)
        self.assert_same(getattr(raised, KEPT[error]), kept)

    def assert_order(self, call, *parameters):
        """Check the errors of wrong arguments, one and several at once.

        Each parameter is a triple: a right value, wrong values, and the error that they raise.
        An error that keeps something is to keep the wrong value.
        """
        right = [parameter[0] for parameter in parameters]
        call(*right)
        for at, (_, wrong, error) in enumerate(parameters):
            for value in wrong:
                for behind in behind_choices(parameters[at + 1:]):
                    with self.subTest(at=at, value=repr(value), behind=repr(behind)):
                        arguments = [*right[:at], value, *behind]
                        if error in KEPT:
                            self.assert_keeps(error, value, call, *arguments)
                        else:
                            self.assert_raises(error, call, *arguments)


def behind_choices(parameters):
    """Right and wrong values for the parameters behind a wrong one; for what judges are asked nothing is wrong."""
    choices = [[right for right, _, _ in parameters]]
    if parameters:
        choices.append([wrong[0] if wrong else None for _, wrong, _ in parameters])
        choices.append([wrong[-1] if wrong else HUGE for _, wrong, _ in parameters])
    return choices


def judged(value):
    """The parameter of a judge that takes every value."""
    return (value, [], None)


def but(values, *right):
    """The values other than these; True is not taken for 1 there."""
    shapes = [shape(value) for value in right]
    return [value for value in values if shape(value) not in shapes]
