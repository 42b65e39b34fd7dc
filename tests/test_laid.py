"""Tests of webs laid on one another, held against all rearrangements for small webs."""

import itertools
import random
import unittest

from levelhues.base.joined import rearranged
from levelhues.base.webs import Web
from levelhues.errors import InvalidOperation, InvalidWeb, TooMany
from levelhues.group import laid as module
from levelhues.group.laid import common_ties, improved, is_laid, laid, swapped
from plain import BARE, FULL, LOTS, TRIANGLES, bounded_web, round_web, side_by_side, some_webs
from samples import HUGE, PAIRS, RING, SIDES, STAR, Case, all_webs, any_values, judged, wrong_webs

EVERY = tuple(range(20))
PLACES = (0, 1, 2, 3, 4)
COUPLES = side_by_side(*[Web.path(2)] * 10)
CROSSED = Web(5, ((0, 1), (2, 3)))


def plain_common(one, other, row):
    found = []
    for tie in one.ties:
        goals = {row[tie[0]], row[tie[1]]}
        if any(goals == set(told) for told in other.ties):
            found.append(tie)
    return tuple(found)


def swap(row, pair):
    row = list(row)
    row[pair[0]], row[pair[1]] = row[pair[1]], row[pair[0]]
    return tuple(row)


def backward(row):
    return tuple(row.index(place) for place in range(len(row)))


def pairs_of(webs, by):
    """Pairs of webs with equally many places, each so manieth of them."""
    pairs = [(one, other) for one in webs for other in webs if one.size == other.size]
    return pairs[::by]


def few_ties(seed, many, least, greatest):
    """Pairs of webs for which twice the product of the greatest degrees is below the number of the places."""
    chance = random.Random(seed)
    found = []
    while len(found) < many:
        size = chance.randint(least, greatest)
        most = chance.randint(0, (size - 1) // 2)
        one = bounded_web(chance, size, most)
        other = bounded_web(chance, size, (size - 1) // (2 * most) if most else size)
        if 2 * one.most * other.most < size:
            found.append(chance.choice([(one, other), (other, one)]))
    return found


def wrong_rows():
    """Values that are no rearrangements of five places."""
    return [
        *any_values(), (0, 1, 2, 3), (0, 1, 2, 3, 4, 5), (0, 1, 2, 3, 5), (0, 1, 2, 3, 3), (1, 2, 3, 4, 5), [0, 1, 2, 3, 4],
        (0, 1, 2, 3, None), (False, 1, 2, 3, 4), (0, True, 2, 3, 4), (0, 1, 2, 3, -1), (0, 1, 2, 3, HUGE), (0, 1, 2, 3, "4"),
        "01234", {0: 0, 1: 1, 2: 2, 3: 3, 4: 4}, (0, 1, 2, 3, (4,)),
    ]


class LaidCase(Case):
    def assert_two_errors(self, call, *more):
        """Check the errors for the two webs, and that they have equally many places."""
        self.assert_order(call, (RING, wrong_webs(), InvalidWeb), (CROSSED, wrong_webs(), InvalidWeb), *more)
        behind = [right for right, _, _ in more]
        for one, other in ((RING, STAR), (STAR, RING), (RING, BARE), (FULL, FULL.without(0)), (Web(1), Web(2))):
            self.assert_raises(InvalidOperation, call, one, other, *behind)
            self.assert_raises(InvalidWeb, call, one, None, *behind)
            self.assert_raises(InvalidWeb, call, one.size, other, *behind)


class CommonTiesTest(LaidCase):
    def test_all_rearrangements_of_small_webs(self):
        for one, other in [*pairs_of(all_webs(3), 1), *pairs_of(all_webs(4), 67), (RING, CROSSED), (CROSSED, RING)]:
            for row in itertools.permutations(range(one.size)):
                self.assert_same(common_ties(one, other, row), plain_common(one, other, row))

    def test_as_ties_of_the_web_laid(self):
        chance = random.Random(131)
        for one, other in zip(some_webs(132, 40, 20, 20), some_webs(133, 40, 20, 20)):
            row = tuple(chance.sample(EVERY, 20))
            common = common_ties(one, other, row)
            self.assert_same(common, plain_common(one, other, row))
            moved = rearranged(one, row) & other
            self.assertEqual(sorted(tuple(sorted((row[lesser], row[greater]))) for lesser, greater in common), list(moved.ties))

    def test_edges(self):
        self.assert_same(common_ties(FULL, FULL, EVERY), FULL.ties)
        self.assert_same(common_ties(FULL, BARE, EVERY[::-1]), ())
        self.assert_same(common_ties(BARE, FULL, EVERY), ())
        self.assert_same(common_ties(Web(1), Web(1), (0,)), ())
        self.assert_same(common_ties(Web.path(3), Web.path(3), (1, 0, 2)), ((0, 1),))
        self.assert_same(common_ties(Web.path(3), Web.path(3), (2, 0, 1)), ((1, 2),))

    def test_errors(self):
        self.assert_two_errors(common_ties, (PLACES, wrong_rows(), InvalidOperation))


class ImprovedTest(LaidCase):
    def assert_improved(self, one, other, row):
        many = len(plain_common(one, other, row))
        pairs = itertools.combinations(range(one.size), 2)
        better = [pair for pair in pairs if len(plain_common(one, other, swap(row, pair))) < many]
        found = improved(one, other, row)
        if found is None:
            self.assertEqual(better, [])
        else:
            self.assertIs(type(found), tuple)
            self.assertIn(found, better)
        return found

    def test_all_rearrangements_of_small_webs(self):
        for one, other in [*pairs_of(all_webs(3), 1), *pairs_of(all_webs(4), 97), (RING, CROSSED), (RING, RING), (CROSSED, CROSSED)]:
            for row in itertools.permutations(range(one.size)):
                self.assert_improved(one, other, row)

    def test_larger_webs(self):
        chance = random.Random(134)
        for seed in range(12):
            one, other = some_webs(seed, 2, 10, 10)
            self.assert_improved(one, other, tuple(chance.sample(range(10), 10)))

    def test_none_only_without_common_ties_if_there_are_few_ties(self):
        chance = random.Random(135)
        for one, other in few_ties(136, 40, 3, 20):
            row = tuple(chance.sample(range(one.size), one.size))
            self.assertIs(improved(one, other, row) is None, not plain_common(one, other, row))
        # The same webs laid just on one another have as many common ties as there can be.
        self.assertIsNotNone(improved(COUPLES, COUPLES, EVERY))
        self.assertIsNotNone(improved(round_web(20, (1,)), round_web(20, (1,)), EVERY))

    def test_none_where_no_pair_helps(self):
        self.assertIsNone(improved(FULL, FULL, EVERY))
        self.assertIsNone(improved(STAR, STAR, (1, 0, 2, 3, 4, 5)))
        self.assertIsNone(improved(Web(1), Web(1), (0,)))
        self.assertIsNone(improved(BARE, FULL, EVERY))

    def test_errors(self):
        self.assert_two_errors(improved, (PLACES, wrong_rows(), InvalidOperation))


class SwappedTest(LaidCase):
    def test_each_pair(self):
        for row in itertools.permutations(PLACES):
            for pair in itertools.combinations(PLACES, 2):
                self.assert_same(swapped(RING, CROSSED, row, pair), swap(row, pair))
        self.assert_same(swapped(FULL, BARE, EVERY, (0, 19)), (19, *range(1, 19), 0))
        self.assert_same(swapped(Web(2), Web(2), (1, 0), (0, 1)), (0, 1))

    def test_errors(self):
        wrong_pairs = [
            *[value for value in any_values() if repr(value) != "(0, 1)"], (0, 5), (4, 5), (1, 0), (2, 2), (0, 1, 2), (0,), [0, 1], (-1, 0), (False, 1),
            (0, True), (0, None), (0, "1"), (0, HUGE), ((0, 1),), {0: 1}, "01",
        ]
        self.assert_two_errors(swapped, (PLACES, wrong_rows(), InvalidOperation), ((0, 1), wrong_pairs, InvalidOperation))
        self.assert_raises(InvalidOperation, swapped, Web(1), Web(1), (0,), (0, 1))


class LaidTest(LaidCase):
    def assert_laid(self, one, other):
        row = laid(one, other)
        if row is not None:
            self.assertIs(type(row), tuple)
            self.assertEqual(sorted(row), list(range(one.size)))
            self.assertEqual(plain_common(one, other, row), (), (one.ties, other.ties))
            self.assertIs(is_laid(one, other, row), True)
            self.assertIs(is_laid(other, one, backward(row)), True)
        return row

    def test_against_all_rearrangements(self):
        webs = [*pairs_of(all_webs(4), 7), *pairs_of(all_webs(5)[-1024:], 4001), (RING, RING), (STAR, STAR), (SIDES, SIDES), (PAIRS, SIDES)]
        for one, other in webs:
            rows = itertools.permutations(range(one.size))
            wanted = any(not plain_common(one, other, row) for row in rows)
            self.assertIs(self.assert_laid(one, other) is not None, wanted, (one.ties, other.ties))

    def test_eight_places(self):
        for seed in range(60):
            one, other = some_webs(200 + seed, 2, 8, 8)
            there = self.assert_laid(one, other)
            back = self.assert_laid(other, one)
            self.assertIs(there is None, back is None)
            # Each web can be laid on what another one lacks, wherever its places are put.
            order = tuple(random.Random(seed).sample(range(8), 8))
            self.assertIsNotNone(self.assert_laid(one, ~rearranged(one, order)))
        self.assertIsNone(laid(Web.full(8), Web(8).tied(3, 6)))
        self.assertIsNone(laid(Web(8).tied(3, 6), Web.full(8)))
        self.assertIsNone(laid(Web(1) + Web(7), Web(1) + Web(7)))
        self.assertIsNotNone(self.assert_laid(Web(4) + Web(4), Web.full(4) | Web.full(4)))

    def test_few_ties_up_to_twenty_places(self):
        for one, other in few_ties(137, 120, 1, 20):
            self.assertIsNotNone(self.assert_laid(one, other))
        for one, other in ((BARE, FULL), (FULL, BARE), (COUPLES, COUPLES)):
            self.assertIsNotNone(self.assert_laid(one, other))
        self.assertIsNotNone(self.assert_laid(round_web(20, (1, 2, 3, 4, 10)), COUPLES))
        self.assertIsNotNone(self.assert_laid(COUPLES, round_web(20, (1, 2, 3, 4, 10))))
        self.assertIsNotNone(self.assert_laid(round_web(19, (1, 2)), round_web(19, (1,))))
        self.assertIsNotNone(self.assert_laid(round_web(17, (1, 2)), round_web(17, (1,))))

    def test_edges(self):
        self.assert_same(laid(Web(1), Web(1)), (0,))
        self.assertIsNone(laid(Web.path(2), Web.path(2)))
        self.assertIsNotNone(self.assert_laid(Web.full(10), Web(10)))
        self.assertIsNotNone(self.assert_laid(Web(9).tied(0, 1), Web(9).tied(0, 1)))

    def test_errors(self):
        self.assertEqual(module.MAX_LAID, 8)
        self.assert_two_errors(laid)
        self.assert_keeps(TooMany, 8, laid, FULL, FULL)
        self.assert_keeps(TooMany, 8, laid, COUPLES, FULL)
        self.assert_keeps(TooMany, 8, laid, LOTS, COUPLES)
        # Twice the product is just the number of the places.
        self.assert_keeps(TooMany, 8, laid, round_web(16, (1, 2)), round_web(16, (1,)))
        self.assert_keeps(TooMany, 8, laid, round_web(20, (1, 2, 3, 4, 5)), COUPLES)
        self.assert_keeps(TooMany, 8, laid, Web.path(9), Web(1) + Web(8))
        self.assertIsNotNone(self.assert_laid(round_web(8, (1,)), round_web(8, (1,))))


class IsLaidTest(LaidCase):
    def test_all_rearrangements_of_small_webs(self):
        for one, other in [*pairs_of(all_webs(3), 1), *pairs_of(all_webs(4), 61), (RING, CROSSED), (CROSSED, CROSSED), (RING, RING)]:
            for row in itertools.permutations(range(one.size)):
                self.assertIs(is_laid(one, other, row), not plain_common(one, other, row))

    def test_ones_changed_in_one_thing(self):
        right = (0, 2, 1, 3, 4)
        self.assertIs(is_laid(CROSSED, CROSSED, right), True)
        changed = [
            (0, 1, 2, 3, 4), (0, 2, 1, 3), (0, 2, 1, 3, 4, 5), (0, 2, 1, 3, 3), (0, 2, 1, 3, 5), [0, 2, 1, 3, 4], (0, 2, True, 3, 4),
            (False, 2, 1, 3, 4), (0, 2, 1, 3, None), (0, 2, 1, 3, -1), (0, 2, 1, 3, HUGE), (1, 3, 2, 4, 5), "02134",
        ]
        for value in [*changed, *any_values()]:
            with self.subTest(value=value):
                self.assertIs(is_laid(CROSSED, CROSSED, value), False)

    def test_up_to_twenty_places(self):
        self.assertIs(is_laid(FULL, BARE, EVERY), True)
        self.assertIs(is_laid(FULL, FULL, EVERY), False)
        shift = (*range(1, 20), 0)
        self.assertIs(is_laid(COUPLES, COUPLES, shift), True)
        self.assertIs(is_laid(COUPLES, COUPLES, EVERY), False)
        self.assertIs(is_laid(LOTS, Web.full(10) | Web.full(10), EVERY), True)
        self.assertIs(is_laid(LOTS, ~LOTS, swap(EVERY, (0, 10))), False)
        self.assertIs(is_laid(TRIANGLES, ~TRIANGLES, EVERY), True)

    def test_errors(self):
        self.assert_two_errors(is_laid, judged(PLACES))


if __name__ == "__main__":
    unittest.main()
