"""Tests of colourings with told sizes, told hues and lists of hues, and of their numbers."""

import inspect
import itertools
import math
import random
import unittest

from levelhues.base.webs import Web
from levelhues.errors import InvalidNumber, InvalidOperation, InvalidWeb, TooMany
from levelhues.level import exact
from levelhues.level.exact import (
    colourings,
    count_colourings,
    count_level,
    list_colouring,
    set_colouring,
    sized_colouring,
)
from levelhues.level.finding import has_level
from plain import (
    BARE,
    FULL,
    LOTS,
    all_colourings,
    is_level,
    is_proper,
    level_colourings,
    round_web,
    some_webs,
)
from samples import (
    HUGE,
    PAIRS,
    RING,
    SIDES,
    STAR,
    Case,
    all_webs,
    any_values,
    but,
    wrong_numbers,
    wrong_webs,
)

SMALL = all_webs(4)
MORE = [*SMALL[::3], RING, STAR, PAIRS]
TEN = [web for web in some_webs(51, 40, 9, 10) if web.size == 10]
TEN += [Web.full(10), Web(10), Web(5) + Web(5), round_web(10, (1,)), round_web(10, (1, 5)), ~round_web(10, (1,))]
ELEVEN = [Web(10) | Web(1), Web.full(10) + Web(1), BARE, FULL, LOTS]


def all_sizes(total, many):
    """All tuples of so many integers of at least 0 with this sum."""
    return [sizes for sizes in itertools.product(range(total + 1), repeat=many) if sum(sizes) == total]


class ExactCase(Case):
    def assert_colouring(self, web, hues, row):
        self.assertEqual((type(row), len(row)), (tuple, web.size))
        self.assertTrue(all(type(hue) is int and 0 <= hue < hues for hue in row), row)
        self.assertTrue(is_proper(web, row), (web.ties, row))

    def assert_found(self, found, told):
        """Check that a right one of the rows that fit is found, or None if there is none."""
        if told:
            self.assertIn(found, told)
            self.assertEqual({type(found), *map(type, found)}, {tuple, int})
        else:
            self.assertIsNone(found)

    def assert_too_many(self, limit, call, web, *more):
        self.assert_keeps(TooMany, limit, call, web, *more)


class SizedColouringTest(ExactCase):
    def test_small_webs(self):
        for web in MORE:
            for hues in range(1, 5 if web.size < 5 else 4):
                told = all_colourings(web, hues)
                for sizes in all_sizes(web.size, hues):
                    fitting = [row for row in told if tuple(row.count(hue) for hue in range(hues)) == sizes]
                    self.assert_found(sized_colouring(web, sizes), fitting)

    def test_any_order_of_the_sizes(self):
        for web in [*TEN, SIDES, PAIRS]:
            for sizes in ((web.size - 6, 3, 3), (web.size - 5, 2, 2, 1), (0, web.size - 3, 1, 1, 1)):
                there = {sized_colouring(web, order) is not None for order in itertools.permutations(sizes)}
                self.assertEqual(len(there), 1)

    def test_edges(self):
        self.assert_same(sized_colouring(Web(1), (1,)), (0,))
        self.assert_same(sized_colouring(Web(1), (0,) * 19 + (1,)), (19,))
        self.assert_same(sized_colouring(Web(10), (0, 10)), (1,) * 10)
        self.assertIsNone(sized_colouring(Web.full(10), (2,) + (1,) * 8))
        self.assertEqual(sorted(sized_colouring(Web.full(10), (0, 1) * 10)), list(range(1, 20, 2)))
        self.assertEqual(set(sized_colouring(Web(5) + Web(5), (5, 5))[:5]), set(sized_colouring(Web(5), (5,))))

    def test_ten_places(self):
        for web in TEN:
            for sizes in ((4, 3, 3), (5, 5), (2,) * 5, (1,) * 10, (0,) * 10 + (1,) * 10, (3, 0, 3, 0, 2, 2), (6, 1, 1, 1, 1)):
                found = sized_colouring(web, sizes)
                if found is not None:
                    self.assert_colouring(web, len(sizes), found)
                    self.assertEqual(tuple(found.count(hue) for hue in range(len(sizes))), sizes)
                elif max(sizes) - min(sizes) <= 1:
                    self.assertIs(has_level(web, len(sizes)), False)

    def test_errors(self):
        wrong = [
            *any_values(), (), (2, 2), (6, 1), (7, -1), (-1, 7), (HUGE, -HUGE), (6,) + (0,) * 20, (6, 1, -1), [3, 3], (5, True),
            (6, False), (6, None), ("6",), ((6,),), {6: 0}, (3, 3, 1), (5,), (3, 2), (6, 0, "0"),
        ]
        self.assert_order(sized_colouring, (SIDES, wrong_webs(), InvalidWeb), ((3, 3), wrong, InvalidOperation))
        self.assertIsNone(sized_colouring(SIDES, (2,) * 3 + (0,) * 17))
        for web in ELEVEN:
            self.assert_too_many(10, sized_colouring, web, (web.size,))
            self.assert_raises(InvalidOperation, sized_colouring, web, (web.size - 1,))


class SetColouringTest(ExactCase):
    def test_small_webs(self):
        for web in [*all_webs(3), *SMALL[12::5]]:
            for hues in range(1, 5):
                told = level_colourings(web, hues)
                for wanted in itertools.product((None, *range(hues)), repeat=web.size):
                    given = {place: hue for place, hue in enumerate(wanted) if hue is not None}
                    fitting = [row for row in told if all(row[place] == given[place] for place in given)]
                    self.assert_found(set_colouring(web, hues, given), fitting)

    def test_the_order_of_the_keys_has_no_meaning(self):
        self.assertIsNone(set_colouring(STAR, 4, {5: 0, 1: 0, 3: 0}))
        found = set_colouring(STAR, 4, {5: 0, 3: 0, 0: 2})
        self.assert_colouring(STAR, 4, found)
        self.assertEqual((found[5], found[3], found[0], is_level(found, 4)), (0, 0, 2, True))

    def test_ten_places(self):
        chance = random.Random(52)
        for web in TEN:
            for hues in (1, 2, 3, 4, 5, 9, 10, 11, 20):
                found = set_colouring(web, hues, {})
                self.assertIs(found is not None, has_level(web, hues))
                if found is not None:
                    given = {place: found[place] for place in chance.sample(range(10), 6)}
                    again = set_colouring(web, hues, given)
                    self.assert_colouring(web, hues, again)
                    self.assertTrue(is_level(again, hues) and all(again[place] == given[place] for place in given))
                    self.assert_same(set_colouring(web, hues, dict(enumerate(found))), found)
        self.assertIsNone(set_colouring(Web(10), 20, {0: 19, 9: 19}))
        self.assertIsNone(set_colouring(Web(10), 5, {0: 1, 1: 1, 2: 1}))
        self.assertIsNone(set_colouring(Web.path(10), 3, {4: 1, 5: 1}))
        self.assert_same(set_colouring(Web(1), 20, {0: 19}), (19,))

    def test_errors(self):
        wrong = [
            *[value for value in any_values() if not isinstance(value, dict)], {6: 0}, {-1: 0}, {0: 4}, {0: -1}, {0: None},
            {None: 0}, {0: True}, {True: 0}, {0: "1"}, {"0": 1}, {(0,): 1}, {0: (1,)}, {0: [1]}, {0: 0, 1: 4}, {HUGE: 0},
            {0: HUGE}, {0: {0: 1}}, [(0, 1)], ((0, 1),), {"a": 0}, {0: RING}, {False: 0},
        ]
        self.assert_order(
            set_colouring, (STAR, wrong_webs(), InvalidWeb), (4, wrong_numbers(1, 20), InvalidNumber),
            ({0: 3}, wrong, InvalidOperation),
        )
        for web in ELEVEN:
            self.assert_too_many(10, set_colouring, web, 20, {})
            self.assert_too_many(10, set_colouring, web, 1, {web.size - 1: 0})
            self.assert_raises(InvalidOperation, set_colouring, web, 20, {web.size: 0})
            self.assert_raises(InvalidOperation, set_colouring, web, 2, {0: 2})


class ListColouringTest(ExactCase):
    def plain(self, web, lists, most):
        rows = itertools.product(*lists)
        return [row for row in rows if is_proper(web, row) and all(row.count(hue) <= most for hue in row)]

    def test_small_webs(self):
        choices = [(), (0,), (1,), (0, 1), (1, 2), (0, 19)]
        for web in [*all_webs(3), *SMALL[12::9]]:
            for lists in list(itertools.product(choices, repeat=web.size))[::1 if web.size < 4 else 5]:
                for most in (0, 1, 2, 3):
                    self.assert_found(list_colouring(web, lists, most), self.plain(web, lists, most))

    def test_more_places(self):
        chance = random.Random(53)
        for web in [RING, STAR, SIDES, PAIRS, *some_webs(54, 20, 5, 7)]:
            for _ in range(25):
                lists = tuple(tuple(sorted(chance.sample(range(17, 20), chance.randint(1, 3)))) for _ in range(web.size))
                most = chance.randint(1, 3)
                self.assert_found(list_colouring(web, lists, most), self.plain(web, lists, most))

    def assert_listed(self, web, lists, most):
        found = list_colouring(web, lists, most)
        self.assert_colouring(web, 20, found)
        self.assertTrue(all(hue in lists[place] for place, hue in enumerate(found)))
        self.assertTrue(all(found.count(hue) <= most for hue in found))

    def test_ten_places(self):
        every = tuple(range(20))
        for web in TEN:
            self.assert_listed(web, (every,) * 10, 1)
            self.assert_listed(web, (every,) * 10, 10)
            self.assertIsNone(list_colouring(web, (every,) * 10, 0))
            self.assertIsNone(list_colouring(web, (every[:9],) * 10, 1))
            self.assertIsNone(list_colouring(web, (every,) * 9 + ((),), 10))
            self.assert_listed(web, tuple((place, place + 10) for place in range(10)), 1)
            for most in (1, 2, 4, 9):
                lists = tuple(every[place:place + web.most + 1] for place in range(10))
                if most == 9:
                    self.assert_listed(web, lists, 10)
                else:
                    found = list_colouring(web, lists, most)
                    self.assertTrue(found is None or max(found.count(hue) for hue in found) <= most)
        self.assert_same(list_colouring(Web(10), ((19,),) * 10, 10), (19,) * 10)
        self.assertIsNone(list_colouring(Web(10), ((19,),) * 10, 9))
        self.assertIsNone(list_colouring(Web(10).tied(0, 9), ((19,),) * 10, 10))
        self.assert_same(list_colouring(Web(1), ((3,),), 1), (3,))
        self.assertIsNone(list_colouring(Web(1), ((3,),), 0))
        self.assertIsNone(list_colouring(Web(1), ((),), 10))
        self.assertIsNone(list_colouring(Web(10).tied(0, 1), ((0,), (0,)) + (every,) * 8, 5))

    def test_errors(self):
        right = ((0,), (0, 1), ())
        wrong = [
            *any_values(), (), ((0,), (1,)), right + ((),), list(right), ((0,), [1], ()), ((0,), (1, 0), ()), ((0,), (1, 1), ()),
            ((20,), (), ()), ((-1,), (), ()), ((0,), (True,), ()), ((0,), None, ()), ((0,), "1", ()), ((0,), 1, ()), (0, 1, 2),
            ((0,), ("1",), ()), ((0,), ((1,),), ()), ((0, 20), (), ()), ((HUGE,), (), ()), ((), {0: 1}, ()), ((0, None), (), ()),
        ]
        self.assert_order(
            list_colouring, (Web(3), wrong_webs(), InvalidWeb), (right, wrong, InvalidOperation),
            (2, wrong_numbers(0, 10), InvalidNumber),
        )
        for web in ELEVEN:
            self.assert_too_many(10, list_colouring, web, ((0,),) * web.size, 10)
            self.assert_keeps(InvalidNumber, 11, list_colouring, web, ((0,),) * web.size, 11)
            self.assert_raises(InvalidOperation, list_colouring, web, ((0,),) * 10, 11)


class CountTest(ExactCase):
    def test_small_webs(self):
        for web in [*SMALL, RING, STAR, PAIRS]:
            for hues in range(1, 5):
                self.assert_same(count_colourings(web, hues), len(all_colourings(web, hues)))
                self.assert_same(count_level(web, hues), len(level_colourings(web, hues)))
        for web in all_webs(3):
            for hues in (5, 6, 7):
                self.assert_same(count_level(web, hues), len(level_colourings(web, hues)))

    def test_ten_places(self):
        for hues in (1, 2, 3, 10, 11, 20):
            self.assert_same(count_colourings(Web(10), hues), hues ** 10)
            self.assert_same(count_colourings(Web.path(10), hues), hues * (hues - 1) ** 9)
            self.assert_same(count_colourings(Web.full(10), hues), math.perm(hues, 10))
            self.assert_same(count_level(Web.full(10), hues), math.perm(hues, 10))
            wanted = (hues - 1) ** 10 + (hues - 1)
            self.assert_same(count_colourings(round_web(10, (1,)), hues), wanted)
        for web in TEN:
            for hues in (10, 15, 20):
                self.assert_same(count_level(web, hues), math.perm(hues, 10))
            for hues in (1, 2, 3, 4, 5):
                self.assertIs(count_level(web, hues) > 0, has_level(web, hues))
        self.assert_same(count_level(Web(10), 5), math.factorial(10) // 2 ** 5)
        self.assert_same(count_level(Web(10), 3), 3 * math.factorial(10) // (24 * 6 * 6))
        self.assert_same(count_level(Web(10), 1), 1)
        self.assert_same(count_level(Web(5) + Web(5), 2), 2)
        self.assert_same((count_colourings(Web(1), 20), count_level(Web(1), 20)), (20, 20))

    def test_a_tie_less(self):
        for web in [*TEN, STAR, SIDES]:
            for one, other in web.ties[:2]:
                kept = [place for place in range(web.size) if place != other]
                # The other place is laid on the one: those colourings in which both have one hue.
                laid = web.untied(one, other)
                for place in web[other]:
                    laid = laid.tied(one, place) if place != one else laid
                for hues in (2, 3, 7):
                    both = count_colourings(laid.part(tuple(kept)), hues)
                    self.assert_same(count_colourings(web, hues), count_colourings(web.untied(one, other), hues) - both)

    def test_errors(self):
        for call in (count_colourings, count_level):
            self.assert_order(call, (SIDES, wrong_webs(), InvalidWeb), (3, wrong_numbers(1, 20), InvalidNumber))
            for web in ELEVEN:
                self.assert_too_many(10, call, web, 1)
                self.assert_too_many(10, call, web, 20)
                self.assert_keeps(InvalidNumber, 0, call, web, 0)


class ColouringsTest(ExactCase):
    def test_small_webs(self):
        for web in [*SMALL, RING, STAR]:
            for hues in range(1, 5):
                self.assert_same(list(colourings(web, hues)), sorted(all_colourings(web, hues)))

    def test_edges(self):
        self.assert_same(list(colourings(Web(1), 1)), [(0,)])
        self.assert_same(list(colourings(Web(1), 20)), [(hue,) for hue in range(20)])
        self.assert_same(list(colourings(Web.path(2), 1)), [])
        self.assert_same(list(itertools.islice(colourings(Web(7), 20), 3)), [(0,) * 7, (0,) * 6 + (1,), (0,) * 6 + (2,)])
        first = next(iter(colourings(Web.full(7), 20)))
        self.assert_same(first, (0, 1, 2, 3, 4, 5, 6))
        rows = list(colourings(round_web(7, (1, 2)), 4))
        self.assertEqual(len(rows), count_colourings(round_web(7, (1, 2)), 4))
        self.assertEqual(rows, sorted(rows))

    def test_it_is_a_generator(self):
        self.assertTrue(inspect.isgeneratorfunction(colourings))
        # The errors come when the first value is asked for.
        for arguments in ((None, None), (SIDES, 0), (BARE, 3)):
            self.assertTrue(inspect.isgenerator(colourings(*arguments)))

    def test_errors(self):
        def first(web, hues):
            return next(colourings(web, hues), None)

        self.assert_order(first, (SIDES, wrong_webs(), InvalidWeb), (3, wrong_numbers(1, 20), InvalidNumber))
        for web in (Web(8), Web.full(10), *ELEVEN):
            self.assert_too_many(7, first, web, 1)
            self.assert_too_many(7, first, web, 20)
            self.assert_keeps(InvalidNumber, 21, first, web, 21)


class InterfaceTest(Case):
    def test_constants(self):
        self.assert_same((exact.MAX_EXACT, exact.MAX_LISTED), (10, 7))

    def test_each_function_is_defined_in_the_file(self):
        names = "sized_colouring set_colouring list_colouring count_colourings count_level colourings"
        for name in names.split():
            self.assertEqual(getattr(exact, name).__module__, "levelhues.level.exact")

    def test_wrong_values_are_wrong_for_each_web(self):
        for value in but(any_values(), (0, 1, 2)):
            self.assert_raises(InvalidOperation, sized_colouring, Web(8), value)


if __name__ == "__main__":
    unittest.main()
