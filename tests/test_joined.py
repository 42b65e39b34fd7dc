"""Tests of webs made of few numbers, and of what can be seen of a web."""

import itertools
import unittest

from levelhues.base import joined
from levelhues.base.joined import (
    greatest_apart,
    greatest_clique,
    is_odd_ring,
    odd_ring,
    parted,
    pieces,
    rearranged,
    ring,
    sides,
    tree,
)
from levelhues.base.webs import Web
from levelhues.errors import InvalidNumber, InvalidOperation, InvalidRow, InvalidWeb
from plain import (
    BARE,
    FULL,
    LOTS,
    TIGHT,
    TRIANGLES,
    are_tied,
    ascending_tuples,
    is_apart,
    is_clique,
    pairs_below,
    round_web,
    some_webs,
)
from samples import (
    HUGE,
    PAIRS,
    RING,
    SIDES,
    STAR,
    Case,
    all_webs,
    any_values,
    but,
    judged,
    odd_tuples,
    odd_values,
    wrong_numbers,
    wrong_webs,
)

SMALL = all_webs(4)
WEBS = [*SMALL, *all_webs(5)[-1024::7], *some_webs(3, 60, 6, 9), *some_webs(4, 40, 10, 20), *TIGHT]


def compositions(total):
    """All tuples of integers of at least 1 with this sum."""
    if total == 0:
        return [()]
    return [(first, *rest) for first in range(1, total + 1) for rest in compositions(total - first)]


def plain_is_odd_ring(web, places):
    if len(places) < 3 or len(places) % 2 == 0 or len(set(places)) < len(places):
        return False
    if min(places) < 0 or max(places) >= web.size:
        return False
    return all(are_tied(web, place, places[at - 1]) for at, place in enumerate(places))


def plain_has_sides(web):
    return any(
        is_apart(web, one) and is_apart(web, [place for place in range(web.size) if place not in one])
        for one in ascending_tuples(web.size)
    )


def plain_pieces(web):
    parts = [{place} for place in range(web.size)]
    for one, other in web.ties:
        both = [part for part in parts if one in part or other in part]
        parts = [part for part in parts if part not in both] + [set().union(*both)]
    return tuple(sorted(tuple(sorted(part)) for part in parts))


class RingTest(Case):
    def test_all(self):
        for size in range(3, 11):
            ties = {tuple(sorted((place, (place + 1) % size))) for place in range(size)}
            self.assert_same(ring(size), Web(size, tuple(sorted(ties))))

    def test_errors(self):
        self.assert_order(ring, (3, wrong_numbers(3, 10), InvalidNumber))
        self.assert_keeps(InvalidNumber, 0, ring, 0)


class PartedTest(Case):
    def test_all(self):
        for total in range(1, 11):
            for parts in compositions(total)[::1 if total < 7 else 11]:
                part_of = [at for at, size in enumerate(parts) for _ in range(size)]
                ties = tuple(pair for pair in pairs_below(total) if part_of[pair[0]] != part_of[pair[1]])
                self.assert_same(parted(parts), Web(total, ties))

    def test_edges(self):
        self.assert_same(parted((1,)), Web(1))
        self.assert_same(parted((10,)), Web(10))
        self.assert_same(parted((1,) * 10), Web.full(10))
        self.assert_same(parted((9, 1)).degrees, (1,) * 9 + (9,))

    def test_errors(self):
        wrong = [
            0, 1, HUGE, *odd_values(), *odd_tuples(), (), (0,), (11,), (-1,), (5, 6), (10, 1), (1,) * 11, (3, 0),
            (0, 3), [3, 3], (3, True), (False,), (3, None), (3, "3"), (HUGE,), (-HUGE, HUGE), (-1, 3), (3, (3,)),
        ]
        self.assert_order(parted, ((3, 3), wrong, InvalidOperation))


class TreeTest(Case):
    def test_all(self):
        for many in range(7):
            for parents in itertools.product(*[range(at + 1) for at in range(many)]):
                ties = tuple(sorted((parent, at + 1) for at, parent in enumerate(parents)))
                self.assert_same(tree(parents), Web(many + 1, ties))

    def test_edges(self):
        self.assert_same(tree(()), Web(1))
        self.assert_same(tree((0,)), Web.path(2))
        self.assert_same(tree(tuple(range(9))), Web.path(10))
        self.assert_same(tree((0,) * 9).degrees, (9,) + (1,) * 9)

    def test_errors(self):
        wrong = [
            0, 1, HUGE, *odd_values(), *odd_tuples(), (1,), (-1,), (0, 2), (0, -1), (0,) * 10, tuple(range(10)),
            [0], [], (False,), (0, True), (0, None), (HUGE,), (0, 1, 3), (0, 0, 0, 0, 0, 0, 0, 0, 9), ("0",), ((0,),),
        ]
        self.assert_order(tree, ((0, 1), but(wrong, ()), InvalidOperation))


class RearrangedTest(Case):
    def test_all_small_webs(self):
        for web in SMALL[::2]:
            for row in itertools.permutations(range(web.size)):
                ties = tuple(sorted(tuple(sorted((row[one], row[other]))) for one, other in web.ties))
                self.assert_same(rearranged(web, row), Web(web.size, ties))

    def test_twenty_places(self):
        row = tuple(range(19, -1, -1))
        self.assert_same(rearranged(FULL, row), FULL)
        self.assert_same(rearranged(BARE.tied(0, 1), row), BARE.tied(18, 19))
        self.assert_same(rearranged(LOTS, (*range(10, 20), *range(10))), LOTS)

    def test_errors(self):
        for web in (Web(1), RING, FULL):
            right = tuple(range(web.size))
            wrong = [
                *but(any_values(), right), right[:-1], (*right, web.size),
                (*right[:-1], web.size), (-1, *right[1:]), (*right, 0), (*right[:-1], None), list(right),
                (False, *right[1:]), (*right[:-1], str(web.size - 1)), (*right[:-1], (web.size - 1,)),
            ]
            self.assert_order(rearranged, (web, wrong_webs(), InvalidWeb), (right, wrong, InvalidRow))
        self.assert_raises(InvalidRow, rearranged, RING, (0, 1, 2, 3, 3))
        self.assert_raises(InvalidRow, rearranged, Web.path(2), (True, False))


class PiecesTest(Case):
    def test_webs(self):
        for web in WEBS:
            self.assert_same(pieces(web), plain_pieces(web))

    def test_edges(self):
        self.assert_same(pieces(Web(1)), ((0,),))
        self.assert_same(pieces(BARE), tuple((place,) for place in range(20)))
        self.assert_same(pieces(FULL), (tuple(range(20)),))
        self.assert_same(pieces(Web(4, ((0, 3), (1, 2)))), ((0, 3), (1, 2)))

    def test_errors(self):
        self.assert_order(pieces, (PAIRS, wrong_webs(), InvalidWeb))


class SidesAndOddRingTest(Case):
    def test_just_one_is_there(self):
        for web in [*WEBS, *all_webs(5)[::5]]:
            found, told = sides(web), odd_ring(web)
            self.assertIs(found is None, told is not None)
            if found is None:
                self.assertIs(type(told), tuple)
                self.assertTrue(plain_is_odd_ring(web, told), told)
                self.assertIs(is_odd_ring(web, told), True)
            else:
                self.assertEqual([type(found), type(found[0]), type(found[1]), len(found)], [tuple, tuple, tuple, 2])
                self.assertEqual(sorted([*found[0], *found[1]]), list(range(web.size)))
                self.assertEqual([list(side) for side in found], [sorted(side) for side in found])
                self.assertTrue(is_apart(web, found[0]) and is_apart(web, found[1]))
            if web.size < 8:
                self.assertIs(found is not None, plain_has_sides(web))

    def test_edges(self):
        self.assertEqual(sorted(sides(Web(1))), [(), (0,)])
        self.assertEqual(sorted(sides(LOTS)), [tuple(range(10)), tuple(range(10, 20))])
        self.assertIsNone(sides(FULL))
        self.assertIsNone(odd_ring(BARE))
        self.assertIsNone(sides(round_web(19, (1,))))
        self.assertEqual(len(odd_ring(round_web(19, (1,)))), 19)
        self.assertIsNone(odd_ring(round_web(20, (1, 3, 5))))

    def test_errors(self):
        self.assert_order(sides, (SIDES, wrong_webs(), InvalidWeb))
        self.assert_order(odd_ring, (SIDES, wrong_webs(), InvalidWeb))


class IsOddRingTest(Case):
    def test_all_small_webs(self):
        for web in [*SMALL[::3], RING, Web.full(5), PAIRS]:
            for many in range(6):
                for places in itertools.product(range(-1, web.size + 1), repeat=many):
                    self.assertIs(is_odd_ring(web, places), plain_is_odd_ring(web, places))

    def test_edges(self):
        places = tuple(range(19))
        self.assertIs(is_odd_ring(FULL, places), True)
        self.assertIs(is_odd_ring(FULL, (*places, 19)), False)
        self.assertIs(is_odd_ring(FULL, places[::-1]), True)
        self.assertIs(is_odd_ring(FULL, (0, 1, 2) * 7), False)
        self.assertIs(is_odd_ring(round_web(19, (1,)), places[7:] + places[:7]), True)
        self.assertIs(is_odd_ring(round_web(19, (1,)).untied(0, 18), places), False)
        self.assertIs(is_odd_ring(FULL, [0, 1, 2]), False)
        self.assertIs(is_odd_ring(FULL, (0, True, 2)), False)

    def test_any_value(self):
        for web in (Web(1), RING, BARE, STAR):
            for value in any_values():
                with self.subTest(value=repr(value)):
                    self.assertIs(is_odd_ring(web, value), False)
        for value in any_values():
            with self.subTest(value=repr(value)):
                self.assertIs(is_odd_ring(FULL, value), value == (0, 1, 2))

    def test_errors(self):
        self.assert_order(is_odd_ring, (RING, wrong_webs(), InvalidWeb), judged((0, 1, 2, 3, 4)))


class GreatestTest(Case):
    def assert_greatest(self, web, apart, clique):
        """Check that sets with so many places are found."""
        for found, many, fits in ((greatest_apart(web), apart, is_apart), (greatest_clique(web), clique, is_clique)):
            self.assertIs(type(found), tuple)
            self.assertEqual(found, tuple(sorted(set(found))))
            self.assertTrue(fits(web, found))
            self.assertEqual(len(found), many)

    def test_small_webs(self):
        for web in [*SMALL, *all_webs(5)[-1024::5], *some_webs(5, 40, 6, 10)]:
            chosen = ascending_tuples(web.size)
            apart = max(len(places) for places in chosen if is_apart(web, places))
            clique = max(len(places) for places in chosen if is_clique(web, places))
            self.assert_greatest(web, apart, clique)

    def test_edges(self):
        self.assert_greatest(Web(1), 1, 1)
        self.assert_greatest(Web(10), 10, 1)
        self.assert_greatest(Web.full(10), 1, 10)

    def test_twenty_places(self):
        self.assert_greatest(FULL, 1, 20)
        self.assert_greatest(BARE, 20, 1)
        self.assert_greatest(LOTS, 10, 2)
        self.assert_greatest(TRIANGLES, 7, 3)
        self.assert_greatest(~TRIANGLES, 3, 7)
        self.assert_greatest(round_web(20, (1,)), 10, 2)
        self.assert_greatest(round_web(20, (1, 2)), 6, 3)
        self.assert_greatest(round_web(19, (1, 2, 3)), 4, 4)
        # Of 17 places with these ties, neither four are apart nor four a clique.
        self.assert_greatest(round_web(17, (1, 2, 4, 8)), 3, 3)

    def test_errors(self):
        self.assert_order(greatest_apart, (PAIRS, wrong_webs(), InvalidWeb))
        self.assert_order(greatest_clique, (PAIRS, wrong_webs(), InvalidWeb))


class InterfaceTest(Case):
    def test_each_function_is_defined_in_the_file(self):
        for name in "ring parted tree rearranged pieces sides odd_ring is_odd_ring greatest_apart greatest_clique".split():
            self.assertEqual(getattr(joined, name).__module__, "levelhues.base.joined")


if __name__ == "__main__":
    unittest.main()
