"""Tests of rows: ordinary ones, the edges that the document names, and wrong arguments."""

import itertools
import unittest

from levelhues.base import rows
from levelhues.base.rows import (
    are_alike,
    classes,
    exchanged,
    is_level,
    is_row,
    level_sizes,
    renamed,
    row_of,
    sizes,
    spread,
)
from levelhues.errors import InvalidNumber, InvalidOperation, InvalidRow
from samples import HUGE, Case, odd_tuples, odd_values, wrong_numbers, wrong_rows

LONG = tuple(range(20))


def small_rows():
    """All rows of at most five places with their numbers of hues, up to four."""
    for hues in range(1, 5):
        for size in range(1, 6):
            for row in itertools.product(range(hues), repeat=size):
                yield row, hues


class ConstantsTest(Case):
    def test_constants(self):
        self.assert_same((rows.MAX_PLACES, rows.MAX_HUES, rows.MOST_PLACES), (10, 20, 20))


class IsRowTest(Case):
    def test_rows(self):
        for row in ((0,), (19,), (5, 0, 5), (HUGE,), (0,) * 20, LONG, (20, 10 ** 12)):
            with self.subTest(row=row):
                self.assertIs(is_row(row), True)

    def test_other_values(self):
        for value in wrong_rows():
            with self.subTest(value=repr(value)):
                self.assertIs(is_row(value), False)


class SizesTest(Case):
    def test_ordinary(self):
        self.assert_same(sizes((0, 1, 0, 2), 4), (2, 1, 1, 0))
        self.assert_same(spread((0, 1, 0, 2), 4), 2)

    def test_edges(self):
        self.assert_same(sizes((0,), 1), (1,))
        self.assert_same(sizes((0,) * 20, 1), (20,))
        self.assert_same(sizes(LONG, 20), (1,) * 20)
        self.assert_same(sizes((19,), 20), (0,) * 19 + (1,))
        self.assert_same((spread((0,) * 20, 1), spread((0,) * 20, 2), spread(LONG, 20)), (0, 20, 0))

    def test_all_small_rows(self):
        for row, hues in small_rows():
            counted = [0] * hues
            for hue in row:
                counted[hue] += 1
            self.assert_same(sizes(row, hues), tuple(counted))
            self.assert_same(spread(row, hues), max(counted) - min(counted))


class IsLevelTest(Case):
    def test_hues_that_no_place_has_count(self):
        self.assertIs(is_level((0, 1, 0, 2), 3), True)
        self.assertIs(is_level((0, 1, 0, 2), 4), False)
        self.assertIs(is_level((0,), 20), True)
        self.assertIs(is_level((0, 0), 2), False)
        self.assertIs(is_level((0,) * 20, 1), True)
        self.assertIs(is_level(LONG, 20), True)

    def test_each_two_hues_are_equal_or_one_apart(self):
        for row, hues in small_rows():
            counted = [row.count(hue) for hue in range(hues)]
            level = all(abs(one - other) <= 1 for one in counted for other in counted)
            self.assertIs(is_level(row, hues), level)

    def test_promise_level_exactly_if_the_sizes_are_level(self):
        for row, hues in small_rows():
            ordered = tuple(sorted(sizes(row, hues), reverse=True))
            self.assertIs(is_level(row, hues), ordered == level_sizes(len(row), hues))


class LevelSizesTest(Case):
    def test_ordinary_and_edges(self):
        self.assert_same(level_sizes(7, 3), (3, 2, 2))
        self.assert_same(level_sizes(1, 1), (1,))
        self.assert_same(level_sizes(20, 1), (20,))
        self.assert_same(level_sizes(1, 20), (1,) + (0,) * 19)
        self.assert_same(level_sizes(20, 20), (1,) * 20)
        self.assert_same(level_sizes(20, 3), (7, 7, 6))

    def test_all(self):
        for size in range(1, 21):
            for hues in range(1, 21):
                found = level_sizes(size, hues)
                self.assertEqual((len(found), sum(found)), (hues, size))
                self.assertEqual(found, tuple(sorted(found, reverse=True)))
                self.assertLessEqual(found[0] - found[-1], 1)

    def test_errors(self):
        wrong = wrong_numbers(1, 20)
        self.assert_order(level_sizes, (20, wrong, InvalidNumber), (20, wrong, InvalidNumber))


class ClassesTest(Case):
    def test_ordinary(self):
        self.assert_same(classes((1, 0, 1), 3), ((1,), (0, 2), ()))

    def test_edges(self):
        self.assert_same(classes((0,), 1), ((0,),))
        self.assert_same(classes((0,) * 20, 1), (LONG,))
        self.assert_same(classes(LONG, 20), tuple((place,) for place in range(20)))

    def test_all_small_rows(self):
        for row, hues in small_rows():
            parts = classes(row, hues)
            self.assertEqual(len(parts), hues)
            for hue, part in enumerate(parts):
                self.assert_same(part, tuple(place for place in range(len(row)) if row[place] == hue))
            self.assert_same(row_of(parts), row)


class RowOfTest(Case):
    def test_ordinary(self):
        self.assert_same(row_of(((2,), (0, 1))), (1, 1, 0))
        self.assert_same(row_of(((), (1,), (), (0, 2), ())), (3, 1, 3))

    def test_edges(self):
        self.assert_same(row_of(((0,),)), (0,))
        self.assert_same(row_of((LONG,)), (0,) * 20)
        self.assert_same(row_of(tuple((19 - place,) for place in range(20))), tuple(range(19, -1, -1)))
        self.assert_same(row_of(((),) * 19 + ((0,),)), (19,))

    def test_errors(self):
        wrong = [
            0, -1, HUGE, *odd_values(), ((),), ((), ()), (0,), (0, 1), ((0,), 1), ((0,), [1]), [(0,)], ([0],),
            ((1,),), ((0, 2),), ((0,), (0,)), ((0, 0),), ((1, 0),), ((0, 1), (1, 2)), ((0, 2), (3,)), ((-1, 0),),
            ((-1,), (0,)), ((0, 1), (2, True)), ((False,),), ((0, True),), ((0,), (True,)), ((0, None),), ((0, "1"),),
            (("0",),), ((0, (1,)),), ((HUGE,),), ((0, HUGE),), (tuple(range(21)),), ((0,),) * 2,
            tuple((place,) for place in range(21)), ((),) * 20, ((),) * 20 + ((0,),), ((0,),) + ((),) * 20,
            (LONG, (20,)), *[(value,) for value in odd_values()],
            *[((0,), value) for value in odd_values() if value != ()], *[((value,),) for value in odd_values()],
        ]
        for parts in wrong:
            with self.subTest(parts=repr(parts)):
                self.assert_raises(InvalidOperation, row_of, parts)


class ExchangedTest(Case):
    def test_ordinary(self):
        self.assert_same(exchanged((0, 1, 0), 3, 0, 2), (2, 1, 2))
        self.assert_same(exchanged((0, 1, 2), 3, 1, 0), (1, 0, 2))

    def test_edges(self):
        self.assert_same(exchanged((0,), 1, 0, 0), (0,))
        self.assert_same(exchanged((0, 1), 2, 1, 1), (0, 1))
        self.assert_same(exchanged(LONG, 20, 19, 0), (19, *range(1, 19), 0))

    def test_all_small_rows(self):
        for row, hues in small_rows():
            for one, other in itertools.product(range(hues), repeat=2):
                wanted = list(row)
                for place, hue in enumerate(row):
                    if hue == one:
                        wanted[place] = other
                    elif hue == other:
                        wanted[place] = one
                self.assert_same(exchanged(row, hues, one, other), tuple(wanted))

    def test_errors(self):
        self.assert_order(
            exchanged,
            ((0, 1, 0), wrong_rows(), InvalidRow),
            (3, wrong_numbers(1, 20), InvalidNumber),
            (0, wrong_numbers(0, 2), InvalidNumber),
            (2, wrong_numbers(0, 2), InvalidNumber),
        )

    def test_wrong_hues_come_before_rows_that_do_not_fit(self):
        self.assert_raises(InvalidRow, exchanged, (0, 3), 3, 0, 2)
        self.assert_raises(InvalidRow, exchanged, (0, 3), 3, 2, 2)
        self.assert_keeps(InvalidNumber, 3, exchanged, (0, 3), 3, 3, 0)
        self.assert_keeps(InvalidNumber, -1, exchanged, (0, 3), 3, 0, -1)
        self.assert_keeps(InvalidNumber, True, exchanged, (0, 3), 3, True, False)
        self.assert_keeps(InvalidNumber, 0, exchanged, (0, 3), 0, 9, 9)


class ErrorsOfRowAndHuesTest(Case):
    def test_errors(self):
        for call in (sizes, spread, is_level, classes):
            with self.subTest(call=call.__name__):
                self.assert_order(
                    call, ((0, 2, 0), wrong_rows(), InvalidRow), (3, wrong_numbers(1, 20), InvalidNumber),
                )

    def test_rows_that_do_not_fit_come_last(self):
        for call in (sizes, spread, is_level, classes):
            with self.subTest(call=call.__name__):
                for row, hues in (((3,), 3), ((1,), 1), ((0, 1, 5, 0), 5), ((20,), 20), ((HUGE, 0), 20), (LONG, 19)):
                    self.assert_raises(InvalidRow, call, row, hues)
                for hues in (0, 21, None, True, "3"):
                    self.assert_keeps(InvalidNumber, hues, call, (30, 0), hues)


class RenamedTest(Case):
    def test_ordinary(self):
        self.assert_same(renamed((3, 1, 3, 0)), (0, 1, 0, 2))

    def test_edges(self):
        self.assert_same(renamed((7,)), (0,))
        self.assert_same(renamed((HUGE, 5, HUGE, 0)), (0, 1, 0, 2))
        self.assert_same(renamed(tuple(range(19, -1, -1))), LONG)
        self.assert_same(renamed((9,) * 20), (0,) * 20)

    def test_all_small_rows(self):
        for row, _ in small_rows():
            new = renamed(row)
            firsts = [hue for place, hue in enumerate(new) if hue not in new[:place]]
            self.assertEqual(firsts, list(range(len(firsts))))
            self.assertTrue(parts_alike(row, new))

    def test_errors(self):
        self.assert_order(renamed, ((3, 1), wrong_rows(), InvalidRow))


class AreAlikeTest(Case):
    def test_ordinary(self):
        self.assertIs(are_alike((0, 1, 1), (2, 0, 0)), True)
        self.assertIs(are_alike((0, 1, 1), (2, 0, 2)), False)
        self.assertIs(are_alike((0, 1, 2), (0, 1, 1)), False)
        self.assertIs(are_alike((0, 1, 1), (0, 1, 2)), False)

    def test_edges(self):
        self.assertIs(are_alike((0,), (HUGE,)), True)
        self.assertIs(are_alike(LONG, LONG[::-1]), True)
        self.assertIs(are_alike(LONG, (0,) * 20), False)

    def test_promise_alike_exactly_if_renamed_makes_one_row_of_both(self):
        for size in range(1, 5):
            for row, other in itertools.product(itertools.product(range(3), repeat=size), repeat=2):
                self.assertIs(are_alike(row, other), parts_alike(row, other))
                self.assertIs(are_alike(row, other), renamed(row) == renamed(other))

    def test_errors(self):
        self.assert_order(are_alike, ((3, 1), wrong_rows(), InvalidRow), ((0, 0), wrong_rows(), InvalidRow))

    def test_unlike_numbers_of_places_come_last(self):
        for row, other in (((0,), (0, 0)), ((0, 1), (0,)), (LONG, LONG[:19])):
            self.assert_raises(InvalidOperation, are_alike, row, other)
        for value in [*odd_tuples(), ()]:
            self.assert_raises(InvalidRow, are_alike, (0, 0, 0, 0), value)
            self.assert_raises(InvalidRow, are_alike, value, (0, 0, 0, 0))


def parts_alike(row, other):
    """Tell whether two places have one hue in the one row exactly if they do in the other one."""
    places = range(len(row))
    return all((row[one] == row[two]) == (other[one] == other[two]) for one in places for two in places)


if __name__ == "__main__":
    unittest.main()
