"""Tests of colourings that part groups of places, or that share the weights of places nearly evenly."""

import itertools
import random
import unittest

from levelhues.base.webs import Web
from levelhues.errors import InvalidNumber, InvalidOperation, InvalidWeb, TooMany
from levelhues.group import weights as module
from levelhues.group.weights import (
    grouped_colouring,
    is_grouped,
    is_weighted,
    weight_groups,
    weight_spread,
    weighted,
)
from plain import BARE, FULL, LOTS, TRIANGLES, all_colourings, all_rows, bounded_web, is_proper, some_webs
from samples import HUGE, PAIRS, RING, SIDES, STAR, Case, all_webs, any_values, judged, wrong_numbers, wrong_webs

MOST = 10 ** 6
SMALL = [*all_webs(3), *all_webs(4)[11::3], *all_webs(5)[-1024::41], RING]
ELEVEN = Web(10) | Web(1)


def all_groups(size):
    """All ways to part the places into ascending groups."""
    if size == 0:
        return [()]
    found = []
    for groups in all_groups(size - 1):
        found.append((*groups, (size - 1,)))
        found.extend((*groups[:at], (*group, size - 1), *groups[at + 1:]) for at, group in enumerate(groups))
    return found


def some_groups(chance, size, most):
    """Groups with at most so many places each, in any order."""
    places, groups = list(range(size)), []
    chance.shuffle(places)
    while places:
        many = chance.randint(1, most)
        groups.append(tuple(sorted(places[:many])))
        places = places[many:]
    return tuple(groups)


def some_weights(chance, size):
    """Weights of many kinds: equal ones, noughts, a heavy one, far apart ones, the greatest ones."""
    kinds = [
        lambda: 0, lambda: 1, lambda: MOST, lambda: chance.randint(0, MOST), lambda: chance.randint(0, 9),
        lambda: chance.choice((0, MOST)), lambda: MOST - chance.randint(0, 2), lambda: 2 ** chance.randint(0, 19),
        lambda: chance.choice((1, 2, 100)),
    ]
    kind = chance.choice(kinds)
    return tuple(kind() for _ in range(size))


def plain_is_grouped(web, groups, row):
    return is_proper(web, row) and all(len({row[place] for place in group}) == len(group) for group in groups)


def plain_spread(weights, hues, row):
    shares = [sum(weight for weight, worn in zip(weights, row) if worn == hue) for hue in range(hues)]
    return max(shares) - min(shares)


def plain_weight_groups(weights, hues):
    order = sorted((-weight, place) for place, weight in enumerate(weights))
    return tuple(tuple(sorted(place for _, place in order[at:at + hues])) for at in range(0, len(order), hues))


def wrong_groups():
    """Values that are no groups of a web with five places."""
    return [
        *any_values(), ((0, 1), (2, 3)), ((0, 1), (2, 3), (4,), ()), ((0, 1), (2, 3), (3, 4)), ((1, 0), (2, 3, 4)),
        ((0, 1), (2, 3, 4, 5)), ((0, 1), (2, 3, 4), (5,)), [(0, 1), (2, 3, 4)], ([0, 1], (2, 3, 4)), ((0, 1), (2, 3, 3, 4)),
        ((0, 1), 2, 3, 4), (0, 1, 2, 3, 4), ((False, 1), (2, 3, 4)), ((0, 1), (2, 3, 4), None), ((0, 1, 2, 3, 4), (0,)),
        ((-1, 0, 1), (2, 3, 4)), ((0, 1), (2, 3, HUGE)), ((0, 1), (2, 3, 4), (0, 1)), {0: (0, 1), 1: (2, 3, 4)},
        ((0, 1), (2, 3, None)), ((0, 1), (2, 3, "4")), ((),), ((0, 1, 2, 3, 4), ()),
    ]


def wrong_weights():
    """Values that are no weights of a web with five places, nor of any web."""
    return [
        *[value for value in any_values() if not is_weights(value)], (), [5, 1, 3, 3, 8], (5, 1, 3, 3, -1), (5, 1, 3, 3, MOST + 1),
        (5, 1, 3, 3, True), (5, 1, 3, 3, None), (5, 1, 3, 3, "8"), (5, 1, 3, (3,), 8), (HUGE,) * 5, (1,) * 21,
        {0: 5, 1: 1, 2: 3, 3: 3, 4: 8},
    ]


def is_weights(value):
    fits = isinstance(value, tuple) and 1 <= len(value) <= 20
    return fits and all(type(weight) is int and 0 <= weight <= MOST for weight in value)


class GroupedTest(Case):
    def assert_grouped(self, web, groups, hues):
        row = grouped_colouring(web, groups, hues)
        if row is not None:
            self.assertIs(type(row), tuple)
            self.assertEqual(len(row), web.size)
            self.assertTrue(all(type(hue) is int and 0 <= hue < hues for hue in row))
            self.assertTrue(plain_is_grouped(web, groups, row), (web.ties, groups, hues, row))
            self.assertIs(is_grouped(web, groups, hues, row), True)
        return row

    def test_all_groups_of_small_webs(self):
        for web in SMALL:
            for groups in all_groups(web.size):
                for hues in range(1, 5):
                    right = [row for row in all_colourings(web, hues) if plain_is_grouped(web, groups, row)]
                    row = self.assert_grouped(web, groups, hues)
                    self.assertIs(row is not None, bool(right), (web.ties, groups, hues))

    def test_promised_ones(self):
        chance = random.Random(111)
        for _ in range(120):
            size = chance.randint(1, 10)
            web = bounded_web(chance, size, chance.randint(0, 3))
            hues = max(3 * web.most - 1, 1) + chance.randint(0, 2)
            groups = some_groups(chance, size, hues)
            self.assertIsNotNone(self.assert_grouped(web, groups, hues), (web.ties, groups, hues))
        for hues in range(1, 11):
            self.assertIsNotNone(self.assert_grouped(Web(10), some_groups(chance, 10, hues), hues))

    def test_ten_places(self):
        chance = random.Random(112)
        pairs = tuple((at, at + 5) for at in range(5))
        for web in some_webs(113, 60, 10, 10):
            for groups in (pairs, some_groups(chance, 10, 4), tuple((at,) for at in range(10)), (tuple(range(10)),)):
                for hues in (2, 3, 4, 9, 10, 20):
                    row = self.assert_grouped(web, groups, hues)
                    if hues < max(map(len, groups)):
                        self.assertIsNone(row)
                    if hues >= 10:
                        self.assertIsNotNone(row)
        self.assertIsNone(grouped_colouring(Web.full(10), tuple((at,) for at in range(10)), 9))
        self.assert_same(sorted(grouped_colouring(Web.full(10), tuple((at,) for at in range(10)), 10)), list(range(10)))
        self.assertIsNone(grouped_colouring(Web(10), (tuple(range(10)),), 9))
        self.assertIsNone(grouped_colouring(Web(10), (tuple(range(9)), (9,)), 8))
        self.assert_same(grouped_colouring(Web(1), ((0,),), 1), (0,))
        self.assertIsNone(grouped_colouring(Web.path(10), tuple((at, at + 2) for at in (0, 1, 4, 5)) + ((8, 9),), 1))

    def test_errors(self):
        self.assert_order(
            grouped_colouring, (RING, wrong_webs(), InvalidWeb), (((0, 2), (1,), (3, 4)), wrong_groups(), InvalidOperation),
            (3, wrong_numbers(1, 20), InvalidNumber),
        )
        groups = (tuple(range(11)),)
        self.assert_keeps(TooMany, 10, grouped_colouring, ELEVEN, groups, 20)
        self.assert_keeps(TooMany, 10, grouped_colouring, FULL, tuple((at,) for at in range(20)), 1)
        self.assert_keeps(InvalidNumber, 0, grouped_colouring, ELEVEN, groups, 0)
        self.assert_raises(InvalidOperation, grouped_colouring, ELEVEN, ((0,),), 0)


class IsGroupedTest(Case):
    def test_all_rows_of_small_webs(self):
        for web in [*SMALL[::2], RING]:
            for groups in all_groups(web.size)[::3]:
                for hues in (1, 2, 3):
                    for row in all_rows(web, hues):
                        self.assertIs(is_grouped(web, groups, hues, row), plain_is_grouped(web, groups, row))

    def test_ones_changed_in_one_thing(self):
        groups = ((3, 4), (0, 2), (1,))
        row = (0, 1, 2, 0, 1)
        self.assertIs(is_grouped(RING, groups, 3, row), True)
        changed = [
            (0, 1, 0, 1, 2), (0, 1, 2, 0, 0), (0, 1, 2, 1, 1), (0, 1, 2, 0, 3), (0, 1, 2, 0), (0, 1, 2, 0, 1, 2), [0, 1, 2, 0, 1],
            (0, 1, 2, 0, True), (False, 1, 2, 0, 1), (0, 1, 2, 0, -1), (0, 1, 2, 0, None), (0, 1, 2, 0, HUGE),
        ]
        for value in [*changed, *any_values()]:
            with self.subTest(value=value):
                self.assertIs(is_grouped(RING, groups, 3, value), False)
        self.assertIs(is_grouped(RING, ((0, 1, 2), (3, 4)), 3, row), True)
        self.assertIs(is_grouped(RING, ((0, 3), (1, 2, 4)), 3, row), False)

    def test_up_to_twenty_places(self):
        pairs = tuple((at, at + 10) for at in range(10))
        row = tuple(range(10)) + (1, 2, 3, 4, 5, 6, 7, 8, 9, 0)
        self.assertIs(is_grouped(BARE, pairs, 10, row), True)
        self.assertIs(is_grouped(BARE, pairs, 10, tuple(range(10)) * 2), False)
        self.assertIs(is_grouped(BARE.tied(0, 19), pairs, 10, row), False)
        self.assertIs(is_grouped(FULL, (tuple(range(20)),), 20, tuple(range(20))), True)
        self.assertIs(is_grouped(TRIANGLES, (tuple(range(20)),), 20, (*range(19), 0)), False)

    def test_errors(self):
        self.assert_order(
            is_grouped, (RING, wrong_webs(), InvalidWeb), (((0, 2), (1,), (3, 4)), wrong_groups(), InvalidOperation),
            (3, wrong_numbers(1, 20), InvalidNumber), judged((0, 1, 2, 0, 1)),
        )
        self.assert_keeps(InvalidNumber, 21, is_grouped, ELEVEN, (tuple(range(11)),), 21, None)


class WeightSpreadTest(Case):
    def test_all_rows(self):
        chance = random.Random(114)
        for size in range(1, 5):
            for hues in range(1, 5):
                for row in itertools.product(range(hues), repeat=size):
                    weights = some_weights(chance, size)
                    self.assert_same(weight_spread(weights, hues, row), plain_spread(weights, hues, row))

    def test_edges(self):
        self.assert_same(weight_spread((7,), 1, (0,)), 0)
        self.assert_same(weight_spread((7,), 20, (19,)), 7)
        self.assert_same(weight_spread((MOST,) * 20, 20, (3,) * 20), 20 * MOST)
        self.assert_same(weight_spread((MOST,) * 20, 20, tuple(range(20))), 0)
        self.assert_same(weight_spread((0,) * 20, 3, (0,) * 20), 0)
        self.assert_same(weight_spread((5, 1, 3, 3, 8), 2, (1, 0, 0, 0, 1)), 6)
        self.assert_same(weight_spread((0, 1), 2, (0, 1)), 1)

    def test_errors(self):
        wrong_rows = [
            *[value for value in any_values() if repr(value) != "(0, 1, 2)"], (0, 1), (0, 1, 2, 0), (0, 1, 3), (0, 1, -1), [0, 1, 2], (0, 1, True),
            (0, 1, None), (HUGE, 0, 1), (0, 1, "2"), (0, 1, (2,)),
        ]
        self.assert_order(
            weight_spread, ((5, 0, MOST), wrong_weights(), InvalidOperation), (3, wrong_numbers(1, 20), InvalidNumber),
            ((0, 1, 2), wrong_rows, InvalidOperation),
        )
        self.assertEqual(module.MAX_WEIGHT, MOST)


class WeightedTest(Case):
    def assert_weighted(self, web, weights, hues):
        row = weighted(web, weights, hues)
        if row is not None:
            self.assertIs(type(row), tuple)
            self.assertEqual(len(row), web.size)
            self.assertTrue(all(type(hue) is int and 0 <= hue < hues for hue in row))
            self.assertTrue(is_proper(web, row))
            self.assertLessEqual(plain_spread(weights, hues, row), max(weights), (web.ties, weights, hues))
            self.assertIs(is_weighted(web, weights, hues, row), True)
        return row

    def test_against_all_rows(self):
        chance = random.Random(115)
        for web in [*SMALL, *all_webs(5)[-1024::29]]:
            for hues in range(1, 5):
                colourings = all_colourings(web, hues)
                for _ in range(4):
                    weights = some_weights(chance, web.size)
                    right = [row for row in colourings if plain_spread(weights, hues, row) <= max(weights)]
                    row = self.assert_weighted(web, weights, hues)
                    self.assertIs(row is not None, bool(right), (web.ties, weights, hues))
        for web in (STAR, SIDES, PAIRS, *some_webs(116, 8, 7, 7)):
            for hues in (2, 3):
                colourings = all_colourings(web, hues)
                for _ in range(6):
                    weights = some_weights(chance, web.size)
                    right = [row for row in colourings if plain_spread(weights, hues, row) <= max(weights)]
                    self.assertIs(self.assert_weighted(web, weights, hues) is not None, bool(right))

    def test_promised_ones(self):
        chance = random.Random(117)
        for _ in range(150):
            size = chance.randint(1, 10)
            web = bounded_web(chance, size, chance.randint(0, 3))
            hues = max(3 * web.most - 1, 1) + chance.randint(0, 2)
            weights = some_weights(chance, size)
            self.assertIsNotNone(self.assert_weighted(web, weights, hues), (web.ties, weights, hues))

    def test_ten_places(self):
        chance = random.Random(118)
        for web in some_webs(119, 80, 10, 10):
            for hues in (1, 2, 3, 5, 9, 10, 20):
                row = self.assert_weighted(web, some_weights(chance, 10), hues)
                if hues >= 10:
                    self.assertIsNotNone(row)
        self.assertIsNone(weighted(Web.full(10), (0,) * 10, 9))
        self.assertIsNotNone(weighted(Web.full(10), (0,) * 10, 10))
        # Nine places go with one another only, since each is tied to the first one.
        hub = Web(1) + Web(9)
        self.assertIsNone(weighted(hub, (1,) * 10, 2))
        self.assertIsNone(weighted(hub, (9,) + (10,) * 9, 2))
        self.assertIsNotNone(weighted(hub, (MOST,) + (1,) * 9, 2))
        self.assertIsNotNone(weighted(hub, (8,) * 2 + (1,) * 8, 2))
        self.assertIsNone(weighted(hub, (1, 8) + (1,) * 8, 2))
        self.assert_same(weighted(Web(1), (0,), 1), (0,))

    def test_errors(self):
        wrong = [*wrong_weights(), (5, 1, 3, 3), (5, 1, 3, 3, 8, 1), (1,) * 20]
        self.assert_order(
            weighted, (RING, wrong_webs(), InvalidWeb), ((5, 1, 3, 3, MOST), wrong, InvalidOperation),
            (3, wrong_numbers(1, 20), InvalidNumber),
        )
        self.assert_keeps(TooMany, 10, weighted, ELEVEN, (1,) * 11, 20)
        self.assert_keeps(TooMany, 10, weighted, FULL, (0,) * 20, 1)
        self.assert_keeps(InvalidNumber, 0, weighted, ELEVEN, (1,) * 11, 0)
        self.assert_raises(InvalidOperation, weighted, ELEVEN, (1,) * 10, 0)


class IsWeightedTest(Case):
    def test_all_rows_of_small_webs(self):
        chance = random.Random(120)
        for web in [*SMALL[::2], RING]:
            for hues in (1, 2, 3):
                weights = some_weights(chance, web.size)
                for row in all_rows(web, hues):
                    wanted = is_proper(web, row) and plain_spread(weights, hues, row) <= max(weights)
                    self.assertIs(is_weighted(web, weights, hues, row), wanted)

    def test_ones_changed_in_one_thing(self):
        weights = (5, 1, 3, 3, 8)
        row = (0, 1, 0, 1, 2)
        self.assertIs(is_weighted(RING, weights, 3, row), True)
        changed = [
            (0, 1, 0, 2, 2), (0, 1, 0, 1), (0, 1, 0, 1, 2, 0), (0, 1, 0, 1, 3), [0, 1, 0, 1, 2], (False, 1, 0, 1, 2),
            (0, True, 0, 1, 2), (0, 1, 0, 1, -1), (0, 1, 0, 1, None), (0, 1, 0, HUGE, 2),
        ]
        for value in [*changed, *any_values()]:
            with self.subTest(value=value):
                self.assertIs(is_weighted(RING, weights, 3, value), False)
        # One heavier by one, and a spread that is just too great.
        self.assertIs(is_weighted(Web(3), (4, 2, 2), 2, (0, 0, 1)), True)
        self.assertIs(is_weighted(Web(3), (4, 3, 2), 2, (0, 0, 1)), False)
        self.assertIs(is_weighted(Web(3), (4, 1, 1), 3, (0, 1, 1)), True)
        self.assertIs(is_weighted(Web(3), (4, 1, 1), 3, (0, 0, 1)), False)
        self.assertIs(is_weighted(Web(3), (0, 0, 0), 20, (0, 0, 0)), True)

    def test_up_to_twenty_places(self):
        self.assertIs(is_weighted(FULL, (MOST,) * 20, 20, tuple(range(20))), True)
        self.assertIs(is_weighted(BARE, (MOST,) * 20, 19, tuple(range(19)) + (0,)), True)
        self.assertIs(is_weighted(BARE, (MOST,) * 20, 20, tuple(range(18)) + (0, 0)), False)
        self.assertIs(is_weighted(LOTS, (3,) * 10 + (2,) * 10, 2, (0,) * 10 + (1,) * 10), False)
        self.assertIs(is_weighted(LOTS, (11,) + (2,) * 19, 2, (0,) * 10 + (1,) * 10), True)

    def test_errors(self):
        wrong = [*wrong_weights(), (5, 1, 3, 3), (5, 1, 3, 3, 8, 1)]
        self.assert_order(
            is_weighted, (RING, wrong_webs(), InvalidWeb), ((5, 1, 3, 3, 8), wrong, InvalidOperation),
            (3, wrong_numbers(1, 20), InvalidNumber), judged((0, 1, 0, 1, 2)),
        )


class WeightGroupsTest(Case):
    def test_against_the_words(self):
        chance = random.Random(121)
        for _ in range(300):
            weights = some_weights(chance, chance.randint(1, 20))
            for hues in (1, 2, 3, chance.randint(1, 20), 20):
                self.assert_same(weight_groups(weights, hues), plain_weight_groups(weights, hues))

    def test_edges(self):
        self.assert_same(weight_groups((0,), 1), ((0,),))
        self.assert_same(weight_groups((0,), 20), ((0,),))
        self.assert_same(weight_groups((1,) * 5, 2), ((0, 1), (2, 3), (4,)))
        self.assert_same(weight_groups((1, 2, 3, 4, 5), 2), ((3, 4), (1, 2), (0,)))
        self.assert_same(weight_groups((MOST,) * 20, 20), (tuple(range(20)),))
        self.assert_same(weight_groups((0,) * 20, 1), tuple((at,) for at in range(20)))

    def test_groups_give_small_spreads(self):
        chance = random.Random(122)
        for web in [*SMALL[::4], RING, STAR, *some_webs(123, 20, 7, 10)]:
            for hues in (2, 3, 4, 5):
                weights = some_weights(chance, web.size)
                row = grouped_colouring(web, weight_groups(weights, hues), hues)
                if row is not None:
                    self.assertLessEqual(weight_spread(weights, hues, row), max(weights))

    def test_errors(self):
        self.assert_order(
            weight_groups, ((5, 0, MOST), wrong_weights(), InvalidOperation), (3, wrong_numbers(1, 20), InvalidNumber),
        )


if __name__ == "__main__":
    unittest.main()
