"""Tests of the closed tests for trees, full parted webs, paths and rings, held against what a search finds."""

import itertools
import random
import unittest

from levelhues.base.joined import greatest_apart, parted, pieces, ring, tree
from levelhues.base.webs import Web, web_of
from levelhues.errors import InvalidNumber, InvalidOperation, InvalidWeb
from levelhues.level import closed
from levelhues.level.closed import (
    forest_apart,
    is_parting,
    is_tree,
    parted_has_level,
    parted_level,
    path_has_level,
    ring_has_level,
    tree_has_level,
)
from levelhues.level.finding import has_level
from plain import (
    BARE,
    FULL,
    LOTS,
    TIGHT,
    TRIANGLES,
    ascending_tuples,
    is_apart,
    round_web,
    side_by_side,
    some_webs,
)
from samples import HUGE, PAIRS, RING, SIDES, STAR, Case, all_webs, any_values, judged, wrong_numbers, wrong_webs

# Trees with twenty places: a long one, one with one hub, one with two, and one with three.
LONG = side_by_side(Web.path(10), Web.path(10)).tied(9, 10)
HUB = Web(1) + (Web(9) | Web(10))
HUBS = (side_by_side(Web(1) + Web(9), Web(1) + Web(9))).tied(0, 10)
THREE = side_by_side(Web(1) + Web(6), Web(1) + Web(6), Web(1) + Web(4), Web(1)).tied(0, 7).tied(7, 14).tied(18, 19)
TREES = [LONG, HUB, HUBS, THREE]


def all_trees(many, by=1):
    """All trees with so many places that are told by parents, or each so manieth of them."""
    rows = itertools.product(*[range(at + 1) for at in range(many - 1)])
    return [tree(parents) for parents in itertools.islice(rows, 0, None, by)]


def some_trees(seed, many, size):
    """Trees with so many places, thick ones and thin ones."""
    chance = random.Random(seed)
    trees = []
    for at in range(many):
        parents = [max(0, place - chance.randint(1, 1 + at)) for place in range(1, size)]
        trees.append(web_of(size, tuple(sorted((parent, place + 1) for place, parent in enumerate(parents)))))
    return trees


def compositions(total):
    """All tuples of integers of at least 1 with this sum, the greater ones first."""
    return [parts for many in range(1, total + 1) for parts in falling(total, many, total)]


def falling(total, many, most):
    if many == 0:
        return [()] if total == 0 else []
    return [(first, *rest) for first in range(1, min(most, total) + 1) for rest in falling(total - first, many - 1, first)]


def all_shares(total):
    """All tuples of integers of at least 1 with this sum."""
    if total == 0:
        return [()]
    return [(first, *rest) for first in range(1, total + 1) for rest in all_shares(total - first)]


def plain_is_parting(parts, hues, value):
    many = [share for shares in value for share in shares]
    sums = [sum(shares) for shares in value] == list(parts) and min(many) >= 1
    padded = many + [0] * (hues - len(many))
    return sums and len(many) <= hues and max(padded) - min(padded) <= 1


def wrong_parts():
    return [
        *[value for value in any_values() if repr(value) != "()"], (), (0,), (1001,), (-1, 3), (1,) * 11, [3, 3], (3, True),
        (3, None), (3, "3"), (3, (3,)), (HUGE,), (3, 0), (1000, 1001), {3: 3}, "33",
    ]


class IsTreeTest(Case):
    def test_all_small_webs(self):
        for web in [*all_webs(4), *all_webs(5)[-1024::3], *some_webs(61, 40, 6, 20), *TIGHT, *TREES]:
            wanted = len(pieces(web)) == 1 and len(web.ties) == web.size - 1
            self.assertIs(is_tree(web), wanted)

    def test_edges(self):
        for web in (Web(1), Web.path(2), Web.path(10), *TREES, *all_trees(5)):
            self.assertIs(is_tree(web), True)
        # As many ties as a tree has, but a ring and two pieces.
        for web in (Web(2), RING, Web.full(3) | Web(1), LONG.untied(0, 1), LONG.tied(0, 19), BARE, FULL):
            self.assertIs(is_tree(web), False)

    def test_errors(self):
        self.assert_order(is_tree, (STAR, wrong_webs(), InvalidWeb))


class ForestApartTest(Case):
    def test_small_webs(self):
        for web in [*all_webs(4), *all_webs(5)[-1024::3]]:
            if len(web.ties) + len(pieces(web)) == web.size:
                wanted = max(len(places) for places in ascending_tuples(web.size) if is_apart(web, places))
                self.assert_same(forest_apart(web), wanted)
            else:
                self.assert_raises(InvalidOperation, forest_apart, web)

    def test_up_to_twenty_places(self):
        self.assert_same([forest_apart(web) for web in (*TREES, BARE, Web(1))], [10, 19, 18, 16, 20, 1])
        for web in all_trees(6) + [one | other for one in all_trees(4) for other in TREES if other.size < 17]:
            self.assert_same(forest_apart(web), len(greatest_apart(web)))
        self.assert_same(forest_apart(LONG.without(4)), 10)
        self.assert_same(forest_apart(HUBS.without(0)), 18)
        for web in (RING, FULL, LOTS, TRIANGLES, round_web(20, (1,)), LONG.tied(0, 2), Web.full(3) | Web.path(10)):
            self.assert_raises(InvalidOperation, forest_apart, web)

    def test_errors(self):
        self.assert_order(forest_apart, (STAR, wrong_webs(), InvalidWeb))


class TreeHasLevelTest(Case):
    def test_trees_against_a_search(self):
        trees = [web for many in range(1, 7) for web in all_trees(many)]
        trees += all_trees(8, 37) + all_trees(9, 487) + all_trees(10, 4999)
        trees += some_trees(62, 12, 11) + some_trees(63, 12, 12)
        trees += [Web(1) + (Web(1) | Web(10)), ((Web(1) + Web(8)) | Web.path(2)).tied(2, 9)]
        for web in trees:
            self.assertIs(is_tree(web), True)
            for hues in range(1, 8):
                self.assertIs(tree_has_level(web, hues), has_level(web, hues), (web.ties, hues))

    def test_up_to_twenty_places(self):
        for web in TREES:
            for hues in range(web.most + 1, 21):
                self.assertIs(tree_has_level(web, hues), True)
            self.assertIs(tree_has_level(web, 1), False)
            self.assertIs(tree_has_level(web, 1000), True)
        # The hub has a hue for itself, so all others come twice at most.
        self.assertEqual([hues for hues in range(1, 21) if tree_has_level(HUB, hues)], list(range(11, 21)))
        self.assertEqual([tree_has_level(web, 2) for web in TREES], [True, False, True, False])
        self.assertEqual([tree_has_level(HUBS, hues) for hues in (2, 3, 4)], [True, True, True])

    def test_edges(self):
        self.assertEqual([tree_has_level(Web(1), hues) for hues in (1, 2, 3, 1000)], [True] * 4)
        self.assertEqual([tree_has_level(Web.path(2), hues) for hues in (1, 2, 3, 1000)], [False, True, True, True])

    def test_errors(self):
        self.assert_order(
            tree_has_level, (STAR, wrong_webs(), InvalidWeb), (3, wrong_numbers(1, 1000), InvalidNumber)
        )
        for web in (RING, Web(2), BARE, FULL, PAIRS, SIDES):
            self.assert_raises(InvalidOperation, tree_has_level, web, 3)
            self.assert_keeps(InvalidNumber, 0, tree_has_level, web, 0)


class PartedTest(Case):
    def assert_parting(self, parts, hues):
        """Check that a right parting is told just if there is a level colouring."""
        found = parted_level(parts, hues)
        self.assertIs(found is not None, parted_has_level(parts, hues))
        if found is not None:
            self.assertEqual({type(found), *map(type, found)}, {tuple})
            self.assertEqual({type(share) for shares in found for share in shares}, {int})
            self.assertTrue(plain_is_parting(parts, hues, found))
            self.assertIs(is_parting(parts, hues, found), True)

    def test_against_a_search(self):
        for total in range(1, 10):
            for parts in compositions(total)[::1 if total < 8 else 4]:
                web = parted(parts)
                for hues in range(1, total + 2):
                    self.assertIs(parted_has_level(parts, hues), has_level(web, hues), (parts, hues))
                    self.assertIs(parted_has_level(parts[::-1], hues), has_level(web, hues))
                    self.assert_parting(parts, hues)
                    self.assert_parting(parts[::-1], hues)
        for hues in range(1, 13):
            self.assertIs(parted_has_level((6, 6), hues), has_level(Web(6) + Web(6), hues))
            self.assertIs(parted_has_level((3, 2, 7), hues), has_level(Web(3) + Web(2) + Web(7), hues))

    def test_edges(self):
        for hues in (1, 2, 999, 1000):
            self.assert_parting((1000,), hues)
            self.assertIs(parted_has_level((1000,), hues), True)
            self.assertIs(parted_has_level((1,), hues), True)
        for hues in range(1, 1001, 37):
            for parts in ((1000,) * 10, (1000, 1), (1000, 999), (1, 1000, 500), (7, 11, 13), tuple(range(991, 1001)), (1,) * 10):
                self.assert_parting(parts, hues)
        self.assertEqual([parted_has_level((1000,) * 10, hues) for hues in (9, 10, 11, 20, 1000)], [False, True, False, True, True])
        self.assertEqual([parted_has_level((1,) * 10, hues) for hues in (9, 10, 11, 1000)], [False, True, True, True])
        self.assertEqual([parted_has_level((500, 500), hues) for hues in (1, 2, 3, 999, 1000)], [False, True, False, True, True])
        self.assert_same(parted_level((2, 1), 3), ((1, 1), (1,)))
        self.assert_same(parted_level((2, 1), 1000), ((1, 1), (1,)))
        self.assert_same(parted_level((2, 1), 2), ((2,), (1,)))
        self.assertIsNone(parted_level((2, 1), 1))

    def test_errors(self):
        for call in (parted_has_level, parted_level):
            self.assert_order(
                call, ((3, 3), wrong_parts(), InvalidOperation), (4, wrong_numbers(1, 1000), InvalidNumber)
            )
        self.assert_order(
            is_parting, ((3, 3), wrong_parts(), InvalidOperation), (4, wrong_numbers(1, 1000), InvalidNumber),
            judged(((1, 2), (2, 1))),
        )


class IsPartingTest(Case):
    def test_all_small_values(self):
        for parts in ((1,), (3,), (5,), (3, 3), (4, 2), (2, 1, 3), (1, 1, 1)):
            for value in itertools.product(*[all_shares(size) for size in parts]):
                for hues in range(1, 9):
                    self.assertIs(is_parting(parts, hues, value), plain_is_parting(parts, hues, value))

    def test_there_is_one_just_if_it_is_told(self):
        for parts in compositions(6):
            values = list(itertools.product(*[all_shares(size) for size in parts]))
            for hues in range(1, 8):
                there = any(plain_is_parting(parts, hues, value) for value in values)
                self.assertIs(parted_has_level(parts, hues), there)

    def test_changed_in_one_thing(self):
        self.assertIs(is_parting((3, 3), 4, ((1, 2), (2, 1))), True)
        changed = [
            ((1, 2), (2, 1), ()), ((1, 2),), ((1, 2), (2, 2)), ((1, 2), (2,)), ((1, 2), (3,)), ((1, 2), (1, 1, 1)), ((1, 2, 0), (2, 1)),
            ((1, 2), [2, 1]), [(1, 2), (2, 1)], ((1, 2), (2, True)), ((1, 2), (2, "1")), ((1, 2), (2, None)), ((1, 2), 3), (3, 3),
            ((1, 2), (4, -1)), ((1, 2), (2, 1, 0)), ((), (1, 2)), ((1, 2), ()), None, ((1, 2), {1: 0, 2: 0}), ((1, 2), ((2, 1),)),
            ((HUGE, 3 - HUGE), (1, 2)), ((3,), (1, 1, 1)), ((1,), (2, 1)), "((1, 2), (2, 1))",
        ]
        for value in changed:
            with self.subTest(value=value):
                self.assertIs(is_parting((3, 3), 4, value), False)
        self.assertIs(is_parting((1,), 2, ((1, 0),)), False)
        self.assertIs(is_parting((2, 1), 4, ((1, 1, 0), (1,))), False)
        self.assertIs(is_parting((3, 3), 5, ((1, 2), (2, 1))), False)
        self.assertIs(is_parting((3, 3), 3, ((1, 2), (2, 1))), False)
        self.assertIs(is_parting((3, 4), 4, ((1, 2), (2, 1))), False)

    def test_any_value(self):
        for parts, hues in (((1,), 1), ((3, 3), 4), ((1000,) * 10, 1000), ((2, 1), 7)):
            for value in any_values():
                with self.subTest(value=repr(value)):
                    self.assertIs(is_parting(parts, hues, value), False)
                    self.assertIs(is_parting(parts, hues, (value,)), parts == (1,) and repr(value) == "(1,)")

    def test_edges(self):
        self.assertIs(is_parting((1,), 1000, ((1,),)), True)
        self.assertIs(is_parting((1000,), 1000, ((1,) * 1000,)), True)
        self.assertIs(is_parting((1000,), 999, ((1,) * 998 + (2,),)), True)
        self.assertIs(is_parting((1000,), 998, ((1,) * 998 + (2,),)), False)
        self.assertIs(is_parting((1000,), 1, ((1000,),)), True)
        self.assertIs(is_parting((1000,) * 10, 1000, ((10,) * 100,) * 10), True)
        self.assertIs(is_parting((1000,) * 10, 1000, ((10,) * 100,) * 9 + ((9,) + (10,) * 98 + (11,),)), False)


class PathAndRingTest(Case):
    def test_against_a_search(self):
        for size in range(1, 11):
            for hues in range(1, 13):
                self.assertIs(path_has_level(size, hues), has_level(Web.path(size), hues))
                if size >= 3:
                    self.assertIs(ring_has_level(size, hues), has_level(ring(size), hues))
        for hues in range(1, 5):
            self.assertIs(ring_has_level(12, hues), has_level(round_web(12, (1,)), hues))

    def test_edges(self):
        self.assertEqual([path_has_level(size, hues) for size in (1, 2, 1000) for hues in (1, 2, 1000)], [True] * 3 + [False, True, True] * 2)
        self.assertEqual([ring_has_level(1000, hues) for hues in (1, 2, 3, 1000)], [False, True, True, True])
        self.assertEqual([ring_has_level(999, hues) for hues in (1, 2, 3, 1000)], [False, False, True, True])
        self.assertEqual([ring_has_level(3, hues) for hues in (1, 2, 3, 4)], [False, False, True, True])

    def test_errors(self):
        wrong = wrong_numbers(1, 1000)
        self.assert_order(path_has_level, (1000, wrong, InvalidNumber), (1000, wrong, InvalidNumber))
        self.assert_order(ring_has_level, (1000, wrong_numbers(3, 1000), InvalidNumber), (1000, wrong, InvalidNumber))
        self.assert_keeps(InvalidNumber, 1, ring_has_level, 1, 0)


class InterfaceTest(Case):
    def test_constant(self):
        self.assert_same(closed.MAX_TOLD, 1000)

    def test_each_function_is_defined_in_the_file(self):
        names = (
            "is_tree forest_apart tree_has_level parted_has_level parted_level is_parting path_has_level ring_has_level"
        )
        for name in names.split():
            self.assertEqual(getattr(closed, name).__module__, "levelhues.level.closed")


if __name__ == "__main__":
    unittest.main()
