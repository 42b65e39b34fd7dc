"""Tests of colourings judged, and changed at one place or one piece."""

import itertools
import unittest

from levelhues.base.webs import Web
from levelhues.errors import InvalidNumber, InvalidOperation, InvalidRow, InvalidWeb, Refused
from levelhues.hue import judged as judged_module
from levelhues.hue.judged import (
    clashes,
    greedy,
    is_colouring,
    is_level_colouring,
    movable,
    moved,
    piece_exchanged,
    piece_of,
)
from plain import (
    BARE,
    FULL,
    LOTS,
    TIGHT,
    TRIANGLES,
    all_colourings,
    are_tied,
    is_level,
    is_movable,
    is_proper,
    some_webs,
)
from samples import (
    HUGE,
    RING,
    STAR,
    Case,
    all_webs,
    any_values,
    but,
    judged,
    odd_tuples,
    odd_values,
    wrong_numbers,
    wrong_webs,
)

SMALL = all_webs(4)
ROW = (0, 1, 0, 1, 2)
EVERY = tuple(range(20))
# Webs of twenty places, each with a number of hues and a colouring.
WIDE = [
    (BARE, 1, (0,) * 20), (BARE, 20, EVERY), (BARE, 20, (0,) * 20), (FULL, 20, EVERY), (FULL, 20, EVERY[::-1]),
    (LOTS, 2, (0,) * 10 + (1,) * 10), (LOTS, 5, (0,) * 5 + (3,) * 5 + (4,) * 10), (TRIANGLES, 3, (0, 1, 2) * 6 + (0, 1)),
    (TRIANGLES, 4, (0, 1, 2) * 5 + (1, 2, 0, 3, 1)),
]


def small_colourings():
    """All colourings with up to four hues of the webs with up to three places, and some of those with four."""
    for web in [*all_webs(3), *SMALL[12::5]]:
        for hues in range(1, 5):
            for row in all_colourings(web, hues):
                yield web, hues, row


def wrong_colourings(web, hues, row):
    """Values that are no colourings with so many hues, made of one that is one."""
    values = [
        *any_values(), list(row), row[:-1], (*row, 0), (hues, *row[1:]), (*row[:-1], hues), (-1, *row[1:]), row + row,
        (*row[:-1], None), (*row[:-1], "0"), (*row[:-1], (row[-1],)), (*row[:-1], [row[-1]]), (False, *row[1:]),
        (*row[:-1], True), (*row[:-1], HUGE), [row], (row,), {place: hue for place, hue in enumerate(row)}, str(row),
    ]
    if web.ties:
        one, other = web.ties[-1]
        values.append((*row[:other], row[one], *row[other + 1:]))
    return but(values, row)


def plain_piece(web, row, place, hue):
    """The places reached by ties between places with two hues."""
    found = {place}
    while True:
        more = {
            other for other in range(web.size)
            if row[other] in (row[place], hue) and any(are_tied(web, one, other) for one in found)
        }
        if more <= found:
            return tuple(sorted(found))
        found |= more


class IsColouringTest(Case):
    def test_all_small_webs(self):
        for web in SMALL:
            for hues in range(1, 5):
                for row in itertools.product(range(-1, hues + 1), repeat=web.size):
                    inside = min(row) >= 0 and max(row) < hues
                    wanted = inside and is_proper(web, row)
                    self.assertIs(is_colouring(web, hues, row), wanted)
                    self.assertIs(is_level_colouring(web, hues, row), wanted and is_level(row, hues))

    def test_edges(self):
        self.assertIs(is_colouring(Web(1), 1, (0,)), True)
        self.assertIs(is_level_colouring(Web(1), 20, (19,)), True)
        self.assertIs(is_colouring(Web(1), 20, (20,)), False)
        # A hue that no place has counts, too.
        self.assertIs(is_level_colouring(RING, 3, ROW), True)
        self.assertIs(is_level_colouring(RING, 4, ROW), False)
        self.assertIs(is_level_colouring(RING, 20, (0, 5, 10, 15, 19)), True)

    def test_twenty_places(self):
        for web, hues, row in WIDE:
            self.assertIs(is_colouring(web, hues, row), True)
            self.assertIs(is_level_colouring(web, hues, row), is_level(row, hues))
        self.assertIs(is_colouring(LOTS, 2, (0,) * 9 + (1,) * 11), False)
        self.assertIs(is_colouring(FULL, 20, (*EVERY[:-1], 0)), False)
        self.assertIs(is_colouring(FULL, 19, EVERY), False)

    def test_any_value(self):
        for judge in (is_colouring, is_level_colouring):
            for web, hues, row in [(Web(1), 1, (0,)), (RING, 3, ROW), (BARE, 20, EVERY)]:
                self.assertIs(judge(web, hues, row), True)
                for value in wrong_colourings(web, hues, row):
                    with self.subTest(judge=judge.__name__, value=repr(value)):
                        self.assertIs(judge(web, hues, value), False)

    def test_errors(self):
        for judge in (is_colouring, is_level_colouring):
            self.assert_order(
                judge, (RING, wrong_webs(), InvalidWeb), (3, wrong_numbers(1, 20), InvalidNumber), judged(ROW)
            )


class ClashesTest(Case):
    def test_all_small_webs(self):
        for web in SMALL:
            for row in itertools.product((0, 1, HUGE), repeat=web.size):
                wanted = tuple((one, other) for one, other in web.ties if row[one] == row[other])
                self.assert_same(clashes(web, row), wanted)

    def test_edges(self):
        self.assert_same(clashes(Web(1), (HUGE,)), ())
        self.assert_same(clashes(FULL, (0,) * 20), FULL.ties)
        self.assert_same(clashes(BARE, (7,) * 20), ())
        self.assert_same(clashes(FULL, (*EVERY[:-1], 3)), ((3, 19),))
        self.assert_same(clashes(RING, (30, 30, 0, 0, 1)), ((0, 1), (2, 3)))

    def test_errors(self):
        for web, right in ((RING, (0, 0, 1, 0, 0)), (Web(1), (0,)), (FULL, (0,) * 20)):
            wrong = [
                *any_values(), list(right), right[1:], (*right, 0), (-1, *right[1:]), (*right[1:], None),
                (*right[1:], True), (*right[1:], "0"), (*right[1:], (0,)), (*right[1:], -HUGE),
            ]
            wrong = [value for value in but(wrong, right) if web.size > 1 or repr(value) != f"({HUGE},)"]
            self.assert_order(clashes, (web, wrong_webs(), InvalidWeb), (right, wrong, InvalidRow))


class MovableTest(Case):
    def test_all_small_colourings(self):
        for web, hues, row in small_colourings():
            for place in range(web.size):
                wanted = tuple(hue for hue in range(hues) if is_movable(web, row, place, hue))
                self.assert_same(movable(web, hues, row, place), wanted)

    def test_twenty_places(self):
        for web, hues, row in WIDE:
            for place in (0, 9, 10, 19):
                wanted = tuple(hue for hue in range(hues) if is_movable(web, row, place, hue))
                self.assert_same(movable(web, hues, row, place), wanted)
        self.assert_same(movable(BARE, 20, EVERY, 3), (0, 1, 2, *range(4, 20)))
        self.assert_same(movable(FULL, 20, EVERY, 3), ())

    def test_errors(self):
        for web, hues, row in ((RING, 3, ROW), (Web(1), 1, (0,)), (BARE, 20, EVERY)):
            self.assert_order(
                movable, (web, wrong_webs(), InvalidWeb), (hues, wrong_numbers(1, 20), InvalidNumber),
                (row, wrong_colourings(web, hues, row), InvalidRow),
                (web.size - 1, wrong_numbers(0, web.size - 1), InvalidNumber),
            )
        self.assert_raises(InvalidRow, movable, RING, 2, ROW, 5)


class MovedTest(Case):
    def test_all_small_colourings(self):
        for web, hues, row in small_colourings():
            for place, hue in itertools.product(range(web.size), range(hues)):
                if is_movable(web, row, place, hue):
                    self.assert_same(moved(web, hues, row, place, hue), (*row[:place], hue, *row[place + 1:]))
                else:
                    self.assert_keeps(Refused, hue, moved, web, hues, row, place, hue)

    def test_twenty_places(self):
        self.assert_same(moved(BARE, 20, EVERY, 19, 0), (*EVERY[:-1], 0))
        self.assert_keeps(Refused, 0, moved, FULL, 20, EVERY, 19, 0)
        self.assert_keeps(Refused, 19, moved, FULL, 20, EVERY, 19, 19)
        self.assert_same(moved(LOTS, 5, (0,) * 10 + (1,) * 10, 10, 2), (0,) * 10 + (2,) + (1,) * 9)

    def test_errors(self):
        for web, hues, row, place, hue in ((RING, 3, ROW, 1, 2), (Web(1), 2, (0,), 0, 1), (BARE, 20, EVERY, 19, 0)):
            self.assert_order(
                moved, (web, wrong_webs(), InvalidWeb), (hues, wrong_numbers(1, 20), InvalidNumber),
                (row, wrong_colourings(web, hues, row), InvalidRow),
                (place, wrong_numbers(0, web.size - 1), InvalidNumber),
                (hue, wrong_numbers(0, hues - 1), InvalidNumber),
            )


class PieceTest(Case):
    def test_all_small_colourings(self):
        for web, hues, row in small_colourings():
            for place, hue in itertools.product(range(web.size), range(hues)):
                if row[place] != hue:
                    self.assert_piece(web, hues, row, place, hue)

    def assert_piece(self, web, hues, row, place, hue):
        """Check a piece, and what it is exchanged to."""
        piece = plain_piece(web, row, place, hue)
        self.assert_same(piece_of(web, hues, row, place, hue), piece)
        instead = {row[place]: hue, hue: row[place]}
        wanted = tuple(instead[worn] if at in piece else worn for at, worn in enumerate(row))
        found = piece_exchanged(web, hues, row, place, hue)
        self.assert_same(found, wanted)
        self.assertTrue(is_proper(web, found))
        self.assert_same(piece_exchanged(web, hues, found, place, row[place]), row)

    def test_twenty_places(self):
        for web, hues, row in WIDE:
            for place, hue in itertools.product((0, 7, 19), range(hues)):
                if row[place] != hue:
                    self.assert_piece(web, hues, row, place, hue)
        self.assert_same(piece_of(LOTS, 2, (0,) * 10 + (1,) * 10, 12, 0), EVERY)
        self.assert_same(piece_of(BARE, 20, EVERY, 12, 0), (12,))

    def test_errors(self):
        for call in (piece_of, piece_exchanged):
            for web, hues, row, place, hue in ((RING, 3, ROW, 4, 1), (Web(1), 2, (0,), 0, 1), (BARE, 20, EVERY, 0, 19)):
                self.assert_order(
                    call, (web, wrong_webs(), InvalidWeb), (hues, wrong_numbers(1, 20), InvalidNumber),
                    (row, wrong_colourings(web, hues, row), InvalidRow),
                    (place, wrong_numbers(0, web.size - 1), InvalidNumber),
                    (hue, wrong_numbers(0, hues - 1), InvalidNumber),
                )
                self.assert_raises(InvalidOperation, call, web, hues, row, place, row[place])
            self.assert_raises(InvalidOperation, call, Web(1), 1, (0,), 0, 0)


class GreedyTest(Case):
    def assert_greedy(self, web, order):
        """Check the row place by place, in the order."""
        row = greedy(web, order)
        self.assertEqual((type(row), len(row)), (tuple, web.size))
        for at, place in enumerate(order):
            near = [row[other] for other in order[:at] if are_tied(web, place, other)]
            self.assert_same(row[place], min(hue for hue in range(21) if hue not in near))
        self.assertLessEqual(max(row), web.most)
        self.assertIs(is_colouring(web, web.most + 1, row), True)

    def test_all_small_webs(self):
        for web in SMALL:
            for order in itertools.permutations(range(web.size)):
                self.assert_greedy(web, order)

    def test_up_to_twenty_places(self):
        for web in [*some_webs(11, 40, 5, 20), *TIGHT]:
            order = tuple(range(web.size))
            for told in (order, order[::-1], order[1::2] + order[::2]):
                self.assert_greedy(web, told)
        self.assert_same(greedy(FULL, EVERY), EVERY)
        self.assert_same(greedy(BARE, EVERY), (0,) * 20)

    def test_errors(self):
        for web in (Web(1), STAR, FULL):
            right = tuple(range(web.size))
            wrong = [
                *but(any_values(), right), right[:-1], (*right, web.size), (*right[:-1], web.size), (-1, *right[1:]),
                (*right, 0), (*right[:-1], None), list(right), (False, *right[1:]), (*right[:-1], "0"), right * 2,
            ]
            self.assert_order(greedy, (web, wrong_webs(), InvalidWeb), (right, wrong, InvalidRow))
        self.assert_raises(InvalidRow, greedy, RING, (0, 1, 2, 3, 3))


class InterfaceTest(Case):
    def test_each_function_is_defined_in_the_file(self):
        names = "is_colouring is_level_colouring clashes movable moved piece_of piece_exchanged greedy"
        for name in names.split():
            self.assertEqual(getattr(judged_module, name).__module__, "levelhues.hue.judged")

    def test_odd_values_are_no_hues(self):
        for value in [*odd_values(), *odd_tuples()]:
            self.assertIs(is_colouring(RING, 3, (0, 1, 0, 1, value)), False)


if __name__ == "__main__":
    unittest.main()
