"""Tests of webs: ordinary ones, the edges that the document names, and wrong arguments."""

import itertools
import operator
import unittest

from levelhues.base.webs import Web
from levelhues.errors import InvalidNumber, InvalidOperation, InvalidWeb, TooMany
from samples import HUGE, PAIRS, RING, SIDES, STAR, Case, all_webs, odd_tuples, odd_values, wrong_numbers

TEN = Web.full(10)
TWENTY = TEN + TEN
BARE = Web(10) | Web(10)
# The methods are compared with sets of pairs, on each web with at most four places.
SMALL = all_webs(4)
OPERATORS = (operator.or_, operator.add, operator.and_, operator.sub)


def pairs_below(size):
    """All pairs of places, the lesser one first, ascending."""
    return tuple(itertools.combinations(range(size), 2))


def ascending_tuples(size):
    """All ascending tuples of places."""
    return [chosen for many in range(size + 1) for chosen in itertools.combinations(range(size), many)]


def wrong_places(size):
    """Values that are no ascending tuples of places."""
    return [
        0, 1, HUGE, *odd_tuples(), *[value for value in odd_values() if value != ()], [0, 1], (1, 0), (0, 0),
        (0, 1, 1), (0, size), (size,), (-1,), (-1, 0), (0, HUGE), (-HUGE, 0), (0, True), (False,), (False, 1),
        tuple(range(size + 1)),
    ]


def wrong_ties(size):
    """Values that are no ascending tuples of pairs of places, for at least three places."""
    return [
        0, HUGE, *[value for value in [*odd_values(), *odd_tuples()] if value not in ((), ((0, 1),))],
        [(0, 1)], ([0, 1],), (0, 1),
        ((1, 0),), ((0, 0),), ((0, 1), (0, 1)), ((0, 2), (0, 1)), ((1, 2), (0, 1)), ((0, 1, 2),), ((0,),), ((),),
        ((0, size),), ((-1, 0),), ((-1, 1), (0, 1)), ((0, HUGE),), ((-HUGE, 0),), ((0, True),), ((False, 1),),
        ((0, "1"),), ((0, None),), ((0, 1), None), ((0, 1), 2), ((0, 1), (2,)), ((0, 1), (0, 1, 2)), (((0, 1),),),
        ((0, 1), (1, 2), (2, 1)), ((0, 1), [1, 2]), {(0, 1): 0}, "((0, 1),)",
    ]


class WebCase(Case):
    def assert_web(self, web, size, ties):
        """Check all that a web tells of itself."""
        self.assertIs(type(web), Web)
        self.assert_same(web.size, size)
        self.assert_same(web.ties, tuple(sorted(ties)))
        self.assert_same(len(web), size)
        self.assert_same(list(web), sorted(ties))
        self.assertEqual(str(web), f"web of {size} places, {len(ties)} ties")
        beside = [tuple(two for two in range(size) if (min(one, two), max(one, two)) in ties) for one in range(size)]
        self.assert_same([web[place] for place in range(size)], beside)
        self.assert_same(web.degrees, tuple(len(places) for places in beside))
        self.assert_same(web.most, max(len(places) for places in beside))


class ConstructorTest(WebCase):
    def test_ordinary(self):
        self.assert_web(RING, 5, {(0, 1), (0, 4), (1, 2), (2, 3), (3, 4)})
        self.assert_web(STAR, 6, {(0, place) for place in range(1, 6)})

    def test_edges(self):
        self.assert_web(Web(1), 1, set())
        self.assert_web(Web(1, ()), 1, set())
        self.assert_web(Web(10), 10, set())
        self.assert_web(Web(10, pairs_below(10)), 10, set(pairs_below(10)))
        self.assert_web(Web(10, ((0, 9), (8, 9))), 10, {(0, 9), (8, 9)})

    def test_all_small_webs(self):
        self.assertEqual(len(SMALL), 1 + 2 + 8 + 64)
        for web in SMALL:
            self.assert_web(Web(web.size, web.ties), web.size, set(web.ties))

    def test_errors(self):
        wrong_sizes = wrong_numbers(1, 10)
        self.assert_order(Web, (3, wrong_sizes, InvalidWeb), (((0, 1), (1, 2)), wrong_ties(3), InvalidWeb))
        self.assert_order(Web, (10, wrong_sizes, InvalidWeb), (((0, 1), (8, 9)), wrong_ties(10), InvalidWeb))
        self.assert_order(Web, (1, wrong_sizes, InvalidWeb))
        self.assert_raises(InvalidWeb, Web, 20, TWENTY.ties)
        for ties in (((0, 1),), ((0, 0),)):
            self.assert_raises(InvalidWeb, Web, 1, ties)


class PathAndFullTest(WebCase):
    def test_all(self):
        for size in range(1, 11):
            self.assert_web(Web.path(size), size, {(place, place + 1) for place in range(size - 1)})
            self.assert_web(Web.full(size), size, set(pairs_below(size)))

    def test_errors(self):
        self.assert_order(Web.path, (10, wrong_numbers(1, 10), InvalidNumber))
        self.assert_order(Web.full, (10, wrong_numbers(1, 10), InvalidNumber))


class PropertiesTest(WebCase):
    def test_ordinary(self):
        self.assert_same((RING.size, RING.degrees, RING.most), (5, (2, 2, 2, 2, 2), 2))
        self.assert_same((STAR.degrees, STAR.most), ((5, 1, 1, 1, 1, 1), 5))
        self.assert_same((Web(1).ties, Web(1).degrees, Web(1).most), ((), (0,), 0))
        self.assert_same((TWENTY.size, TWENTY.degrees, TWENTY.most), (20, (19,) * 20, 19))
        self.assert_same((BARE.size, BARE.ties, BARE.degrees, BARE.most), (20, (), (0,) * 20, 0))

    def test_webs_never_change(self):
        for name in ("size", "ties", "degrees", "most"):
            with self.subTest(name=name), self.assertRaises(AttributeError):
                setattr(RING, name, 0)
        self.assert_web(RING, 5, {(0, 1), (0, 4), (1, 2), (2, 3), (3, 4)})


class AreTiedTest(WebCase):
    def test_all_small_webs(self):
        for web in SMALL:
            for one, other in itertools.product(range(web.size), repeat=2):
                self.assertIs(web.are_tied(one, other), (min(one, other), max(one, other)) in set(web.ties))

    def test_edges(self):
        self.assertIs(Web(1).are_tied(0, 0), False)
        self.assertIs(TWENTY.are_tied(19, 0), True)
        self.assertIs(TWENTY.are_tied(19, 19), False)

    def test_errors(self):
        for web in (RING, Web(1), TWENTY):
            last = web.size - 1
            wrong = wrong_numbers(0, last)
            self.assert_order(web.are_tied, (0, wrong, InvalidNumber), (last, wrong, InvalidNumber))


class ApartAndCliqueTest(WebCase):
    def test_ordinary(self):
        self.assertIs(RING.is_apart((0, 2)), True)
        self.assertIs(RING.is_apart((0, 4)), False)
        self.assertIs(PAIRS.is_clique((3, 4, 5)), True)
        self.assertIs(PAIRS.is_clique((2, 3, 4)), False)

    def test_no_place_and_one_place_are_both(self):
        for web in (Web(1), RING, TWENTY):
            for value in ((), (0,), (web.size - 1,)):
                self.assertIs(web.is_apart(value), True)
                self.assertIs(web.is_clique(value), True)

    def test_twenty_places(self):
        every = tuple(range(20))
        self.assertIs(TWENTY.is_clique(every), True)
        self.assertIs(TWENTY.is_apart(every), False)
        self.assertIs(BARE.is_clique(every), False)
        self.assertIs(BARE.is_apart(every), True)
        self.assertIs(TWENTY.untied(18, 19).is_clique(every), False)
        self.assertIs(BARE.tied(18, 19).is_apart(every), False)

    def test_all_small_webs(self):
        for web in SMALL:
            for value in ascending_tuples(web.size):
                tied = [pair in web.ties for pair in itertools.combinations(value, 2)]
                self.assertIs(web.is_apart(value), not any(tied))
                self.assertIs(web.is_clique(value), all(tied))

    def test_other_values(self):
        for web in (RING, BARE, TWENTY):
            for value in wrong_places(web.size):
                with self.subTest(value=repr(value)):
                    self.assertIs(web.is_apart(value), False)
                    self.assertIs(web.is_clique(value), False)


class PartTest(WebCase):
    def test_all_small_webs(self):
        for web in SMALL:
            for places in ascending_tuples(web.size)[1:]:
                ties = {
                    (one, two) for one, two in pairs_below(len(places)) if (places[one], places[two]) in web.ties
                }
                self.assert_web(web.part(places), len(places), ties)

    def test_edges(self):
        self.assert_web(Web(1).part((0,)), 1, set())
        self.assert_web(TWENTY.part(tuple(range(20))), 20, set(pairs_below(20)))
        self.assert_web(TWENTY.part(tuple(range(5, 20))), 15, set(pairs_below(15)))
        self.assert_web((TEN | Web.path(10)).part((8, 9, 10, 11, 13)), 5, {(0, 1), (2, 3)})

    def test_errors(self):
        for web in (RING, Web(2), TWENTY):
            self.assert_order(web.part, ((0, 1), [*wrong_places(web.size), ()], InvalidOperation))


class WithoutTest(WebCase):
    def test_all_small_webs(self):
        for web in SMALL:
            for place in range(web.size) if web.size > 1 else ():
                kept = [other for other in range(web.size) if other != place]
                ties = {(kept.index(one), kept.index(two)) for one, two in web.ties if place not in (one, two)}
                self.assert_web(web.without(place), web.size - 1, ties)

    def test_edges(self):
        self.assert_web(TWENTY.without(0), 19, set(pairs_below(19)))
        self.assert_web(Web.path(2).without(1), 1, set())

    def test_errors(self):
        for web in (RING, Web(2), TWENTY):
            self.assert_order(web.without, (1, wrong_numbers(0, web.size - 1), InvalidNumber))
        self.assert_raises(InvalidOperation, Web(1).without, 0)
        for place in (1, -1, False, None):
            self.assert_keeps(InvalidNumber, place, Web(1).without, place)


class TiedAndUntiedTest(WebCase):
    def test_all_small_webs(self):
        for web in SMALL:
            for one, other in itertools.permutations(range(web.size), 2):
                tie = (min(one, other), max(one, other))
                self.assert_web(web.tied(one, other), web.size, set(web.ties) | {tie})
                self.assert_web(web.untied(one, other), web.size, set(web.ties) - {tie})

    def test_edges(self):
        self.assert_web(TWENTY.tied(19, 18), 20, set(pairs_below(20)))
        self.assert_web(TWENTY.untied(19, 18), 20, set(pairs_below(20)) - {(18, 19)})
        self.assert_web(BARE.tied(19, 0), 20, {(0, 19)})

    def test_errors(self):
        for web in (RING, Web(2), TWENTY):
            last = web.size - 1
            wrong = wrong_numbers(0, last)
            for call in (web.tied, web.untied):
                self.assert_order(call, (0, wrong, InvalidNumber), (last, wrong, InvalidNumber))
                for place in (0, last):
                    self.assert_raises(InvalidOperation, call, place, place)
                self.assert_keeps(InvalidNumber, web.size, call, web.size, web.size)
        self.assert_raises(InvalidOperation, Web(1).tied, 0, 0)
        self.assert_keeps(InvalidNumber, False, Web(1).untied, False, 0)


class OperatorsTest(WebCase):
    def test_side_by_side(self):
        for one, other in itertools.product(SMALL[:20], SMALL[::3]):
            size = one.size + other.size
            ties = set(one.ties) | {(low + one.size, high + one.size) for low, high in other.ties}
            self.assert_web(one | other, size, ties)
            between = set(itertools.product(range(one.size), range(one.size, size)))
            self.assert_web(one + other, size, ties | between)

    def test_common_and_own_ties(self):
        for one, other in itertools.product(SMALL, repeat=2):
            if one.size == other.size:
                self.assert_web(one & other, one.size, set(one.ties) & set(other.ties))
                self.assert_web(one - other, one.size, set(one.ties) - set(other.ties))

    def test_turned_round(self):
        for web in SMALL:
            self.assert_web(~web, web.size, set(pairs_below(web.size)) - set(web.ties))

    def test_twenty_places(self):
        every = set(pairs_below(20))
        left, right = set(pairs_below(10)), {(one + 10, two + 10) for one, two in pairs_below(10)}
        self.assert_web(TWENTY, 20, every)
        self.assert_web(TEN | TEN, 20, left | right)
        self.assert_web(~TWENTY, 20, set())
        self.assert_web(~BARE, 20, every)
        self.assert_web(TWENTY & (TEN | TEN), 20, left | right)
        self.assert_web(TWENTY - (TEN | TEN), 20, every - left - right)
        self.assert_web((TEN | TEN).part(tuple(range(19))) | Web(1), 20, left | {tie for tie in right if 19 not in tie})
        self.assert_web(Web(1) + TWENTY.without(0), 20, every)

    def test_no_more_than_twenty_places(self):
        for one, other in ((TWENTY, Web(1)), (Web(1), TWENTY), (TWENTY, TWENTY), (TEN | Web(1), TEN)):
            self.assert_keeps(TooMany, 20, operator.or_, one, other)
            self.assert_keeps(TooMany, 20, operator.add, one, other)

    def test_unlike_numbers_of_places(self):
        for one, other in ((RING, STAR), (STAR, RING), (Web(1), TWENTY), (TWENTY, Web(1))):
            self.assert_raises(InvalidOperation, operator.and_, one, other)
            self.assert_raises(InvalidOperation, operator.sub, one, other)

    def test_the_right_operand_is_no_web(self):
        values = [value for value in [0, 5, HUGE, *odd_values(), *odd_tuples()] if not isinstance(value, Web)]
        for call, web, value in itertools.product(OPERATORS, (RING, TWENTY), values):
            with self.subTest(call=call.__name__, value=repr(value)):
                self.assert_raises(InvalidWeb, call, web, value)

    def test_operands_stay_as_they_were(self):
        kept = web = RING
        for call in OPERATORS:
            call(web, RING)
        web |= Web(1)
        self.assert_web(web, 6, set(RING.ties))
        self.assert_web(kept, 5, {(0, 1), (0, 4), (1, 2), (2, 3), (3, 4)})
        self.assertIs(kept, RING)


class ItemsTest(WebCase):
    def test_neighbours(self):
        self.assert_same((RING[0], STAR[0], STAR[5], Web(1)[0]), ((1, 4), (1, 2, 3, 4, 5), (0,), ()))
        self.assert_same(TWENTY[7], tuple(place for place in range(20) if place != 7))

    def test_errors(self):
        for web in (RING, Web(1), TWENTY):
            self.assert_order(web.__getitem__, (0, wrong_numbers(0, web.size - 1), InvalidNumber))
            self.assert_keeps(InvalidNumber, -1, lambda: web[-1])


class InTest(WebCase):
    def test_all_small_webs(self):
        for web in SMALL:
            for pair in itertools.product(range(-1, 5), repeat=2):
                self.assertIs(pair in web, pair in set(web.ties))

    def test_any_value(self):
        values = [
            0, 1, HUGE, *odd_values(), *odd_tuples(), (0,), (0, 1, 2), [0, 1], (1, 0), (0, 20), (-1, 0), (False, 1),
            (0, True), (False, True), (0, 0), (0, HUGE), (-HUGE, 0), ("0", "1"), ((0, 1),), (0, (1,)), RING.ties,
        ]
        for web in (RING, Web.full(5), TWENTY):
            for value in values:
                with self.subTest(value=repr(value)):
                    self.assertIs(value in web, False)
                    self.assertIs(value not in web, True)

    def test_edges(self):
        self.assertIs((18, 19) in TWENTY, True)
        self.assertIs((18, 19) in BARE, False)
        self.assertIs((0, 0) in Web(1), False)


class IterationTest(WebCase):
    def test_ties_ascend(self):
        self.assert_same(list(SIDES), list(SIDES.ties))
        self.assert_same(list(TWENTY), list(pairs_below(20)))
        self.assert_same(list(Web(1)), [])

    def test_it_can_be_done_again_and_within(self):
        found = [(one, other) for one in RING for other in RING]
        self.assert_same(found, list(itertools.product(RING.ties, repeat=2)))
        self.assert_same(list(RING), list(RING))


class LengthTest(WebCase):
    def test_number_of_places(self):
        self.assert_same([len(Web(1)), len(RING), len(STAR), len(TEN), len(TWENTY)], [1, 5, 6, 10, 20])
        self.assertIs(bool(Web(1)), True)


class EqualityTest(WebCase):
    def test_webs(self):
        for at, one in enumerate(SMALL):
            for by, other in enumerate(SMALL):
                self.assertIs(one == other, at == by)
                self.assertIs(one != other, at != by)
            again = Web(one.size, one.ties)
            self.assertIs(one == again, True)
            self.assertIs(one != again, False)

    def test_made_in_unlike_ways(self):
        self.assertIs(TWENTY == ~BARE, True)
        self.assertIs(RING.part((0, 1, 2, 3, 4)) == RING, True)
        self.assertIs((Web(3) | Web(2)) == Web(5), True)
        self.assertIs((Web(3) | Web(2)) != Web(5), False)
        self.assertIs(TWENTY == TWENTY.untied(0, 19), False)
        self.assertIs(BARE == BARE.without(19), False)

    def test_any_value(self):
        values = [value for value in [5, HUGE, *odd_values(), *odd_tuples()] if not isinstance(value, Web)]
        for value in [*values, (5, RING.ties), RING.ties, "web of 5 places, 5 ties", [RING], (RING,)]:
            with self.subTest(value=repr(value)):
                self.assertIs(RING == value, False)
                self.assertIs(value == RING, False)
                self.assertIs(RING != value, True)
                self.assertIs(value != RING, True)


class TextTest(WebCase):
    def test_text(self):
        self.assert_same(str(RING), "web of 5 places, 5 ties")
        self.assert_same(str(Web(1)), "web of 1 places, 0 ties")
        self.assert_same(str(Web.path(2)), "web of 2 places, 1 ties")
        self.assert_same(str(TWENTY), "web of 20 places, 190 ties")


class OwnMethodsTest(WebCase):
    def test_each_listed_method_stands_in_the_class(self):
        listed = (
            "path full size ties degrees most are_tied is_apart is_clique part without tied untied "
            "__init__ __or__ __add__ __and__ __sub__ __invert__ __getitem__ __contains__ __iter__ __len__ __eq__ __str__"
        )
        for name in listed.split():
            with self.subTest(name=name):
                self.assertIn(name, vars(Web))


if __name__ == "__main__":
    unittest.main()
