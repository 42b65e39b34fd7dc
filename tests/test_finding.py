"""Tests of level colourings: found, told by papers, counted off, and as like a row as can be."""

import itertools
import random
import unittest

from levelhues.base.joined import greatest_clique, rearranged
from levelhues.base.webs import Web, web_of
from levelhues.errors import InvalidNumber, InvalidOperation, InvalidRow, InvalidWeb, Refused, TooMany
from levelhues.hue.chains import evened, links_between, onward_to
from levelhues.level import finding
from levelhues.level.bars import bar, is_bar
from levelhues.level.finding import (
    fewest_level,
    has_level,
    is_level_paper,
    level_again,
    level_colouring,
    level_from,
    level_numbers,
    level_paper,
    recoloured,
)
from plain import (
    BARE,
    FULL,
    TIGHT,
    bounded_web,
    is_level,
    is_proper,
    level_colourings,
    round_web,
    side_by_side,
    some_webs,
)
from plain import has_level as plain_has_level
from samples import (
    HUGE,
    PAIRS,
    RING,
    SIDES,
    STAR,
    Case,
    all_webs,
    any_values,
    but,
    judged,
    wrong_numbers,
    wrong_rows,
    wrong_webs,
)

SMALL = [*all_webs(4), *all_webs(5)[-1024::13], RING, STAR, SIDES, PAIRS, *some_webs(41, 10, 6, 6)]
TWELVE = [web for web in some_webs(42, 40, 11, 12) if web.size == 12]
TWELVE += [Web(6) + Web(6), Web.full(10) + Web(2), round_web(12, (1, 2)), ~round_web(12, (1,)), Web(10) | Web(2)]
THIRTEEN = [web for web in some_webs(43, 60, 13, 14) if web.size == 13 and web.ties]
LARGE = [*THIRTEEN, *some_webs(44, 15, 14, 20), *TIGHT]
EVERY = tuple(range(20))


# Webs in which a solo place is moved: to the small hue, to another one, and with places behind to be made level.
KNOTTY = [
    Web(6, ((0, 1), (0, 4), (0, 5), (1, 2), (1, 3), (2, 4), (2, 5), (3, 4), (3, 5))),
    Web(7, (
        (0, 1), (0, 2), (0, 5), (0, 6), (1, 2), (1, 5), (1, 6), (2, 3), (2, 4), (3, 4), (3, 5), (3, 6), (4, 5), (4, 6),
    )),
    Web(8, ((0, 1), (0, 6), (0, 7), (1, 2), (1, 4), (2, 3), (2, 4), (3, 6), (3, 7), (4, 5), (5, 6), (5, 7))),
    Web(8, (
        (0, 3), (0, 5), (0, 6), (0, 7), (1, 2), (1, 4), (2, 4), (2, 6), (2, 7), (3, 4), (3, 6), (3, 7), (4, 5), (5, 6),
        (5, 7),
    )),
    Web(9, (
        (0, 3), (0, 4), (0, 5), (0, 6), (1, 2), (1, 5), (1, 6), (1, 7), (1, 8), (2, 3), (2, 4), (2, 7), (2, 8), (3, 5),
        (3, 7), (3, 8), (4, 5), (4, 7), (4, 8), (5, 6), (6, 7), (6, 8),
    )),
    web_of(14, (
        (0, 1), (0, 7), (0, 11), (0, 13), (1, 4), (1, 5), (1, 13), (2, 3), (2, 8), (2, 9), (2, 11), (3, 6), (3, 8), (3, 12),
        (4, 8), (4, 11), (4, 13), (5, 6), (5, 7), (5, 11), (6, 9), (6, 10), (7, 9), (7, 10), (8, 12), (9, 12), (10, 12),
        (10, 13),
    )),
    web_of(15, (
        (0, 2), (0, 3), (0, 5), (0, 13), (1, 5), (1, 11), (1, 12), (1, 14), (2, 3), (2, 7), (2, 8), (3, 4), (3, 13), (4, 8),
        (4, 12), (4, 14), (5, 9), (5, 14), (6, 7), (6, 10), (6, 13), (7, 11), (7, 14), (8, 9), (8, 10), (9, 11), (9, 13),
        (10, 12), (11, 12),
    )),
    web_of(16, (
        (1, 8), (1, 11), (1, 14), (2, 3), (2, 6), (2, 13), (3, 15), (4, 8), (4, 11), (4, 14), (5, 9), (5, 10), (5, 12),
        (6, 13), (6, 15), (7, 8), (7, 11), (7, 14), (9, 10), (9, 12), (10, 12), (13, 15),
    )),
    web_of(20, (
        (0, 3), (0, 4), (0, 7), (1, 4), (1, 5), (1, 8), (2, 5), (2, 7), (2, 14), (3, 6), (3, 12), (4, 12), (5, 14), (6, 14),
        (6, 19), (7, 9), (8, 9), (8, 18), (9, 10), (10, 12), (10, 19), (11, 13), (11, 15), (11, 16), (13, 16), (13, 17),
        (15, 16), (15, 17), (17, 18), (18, 19),
    )),
]


class FindingCase(Case):
    def assert_level(self, web, hues, row):
        self.assertEqual((type(row), len(row)), (tuple, web.size))
        self.assertTrue(all(type(hue) is int and 0 <= hue < hues for hue in row), row)
        self.assertTrue(is_proper(web, row) and is_level(row, hues), (web.ties, hues, row))

    def assert_found(self, web, hues, there):
        """Check that a level colouring is found just if it is there."""
        row = level_colouring(web, hues)
        self.assertIs(has_level(web, hues), there)
        self.assertIs(row is not None, there)
        if there:
            self.assert_level(web, hues, row)

    def assert_finding_errors(self, call, *more):
        self.assert_order(call, (SIDES, wrong_webs(), InvalidWeb), (3, wrong_numbers(1, 20), InvalidNumber), *more)

    def assert_too_many(self, call, *more):
        """Check that too many places are told just where hues are too few, and behind the errors of all arguments."""
        for web in LARGE:
            if web.size > 12:
                for hues in {1, web.most, min(20, web.most + 1), 20}:
                    if 1 <= hues <= web.most:
                        self.assert_keeps(TooMany, 12, call, web, hues, *more)
                    elif hues > web.most:
                        call(web, hues, *more)
        for hues in (0, 21, None, True):
            self.assert_keeps(InvalidNumber, hues, call, FULL, hues, *more)


class LevelColouringTest(FindingCase):
    def test_small_webs(self):
        for web in SMALL:
            for hues in range(1, web.size + 3):
                self.assert_found(web, hues, plain_has_level(web, hues))

    def test_edges(self):
        for hues in (1, 2, 20):
            self.assert_found(Web(1), hues, True)
            self.assert_found(Web(10), hues, True)
            self.assert_found(BARE, hues, True)
            self.assert_found(Web.path(10), hues, hues > 1)
        for hues in range(1, 21):
            self.assert_found(Web.full(10), hues, hues >= 10)
        self.assert_found(FULL, 20, True)

    def test_twelve_places(self):
        for web in TWELVE:
            for hues in range(1, 21):
                there = bar(web, hues) is None
                self.assert_found(web, hues, there)
                if not there:
                    self.assertIs(is_bar(web, hues, bar(web, hues)), True)

    def test_sides_of_six(self):
        # Both sides of six places are parted into sets of the sizes of a level colouring.
        wanted = {1: False, 2: True, 3: False, 4: True, 5: True, 6: True}
        for hues, there in wanted.items():
            self.assert_found(Web(6) + Web(6), hues, there)

    def test_more_hues_than_the_greatest_degree(self):
        for web in LARGE:
            for hues in range(web.most + 1, 21):
                self.assert_found(web, hues, True)

    def test_many_webs_with_each_number_of_hues_above_the_greatest_degree(self):
        chance = random.Random(45)
        for size in range(1, 21):
            for most in range(size):
                for web in (bounded_web(chance, size, most), bounded_web(chance, size, most)):
                    self.assert_found(web, web.most + 1, True)
                    self.assert_found(web, min(20, web.most + 2), True)
                    self.assert_found(web, chance.randint(web.most + 1, 20), True)

    def test_cliques_and_sides_in_any_order(self):
        chance = random.Random(46)
        for most in range(2, 10):
            for _ in range(12):
                web = side_by_side(*self.blocks(chance, most))
                order = list(range(web.size))
                chance.shuffle(order)
                self.assert_found(rearranged(web, tuple(order)), web.most + 1, True)

    def blocks(self, chance, most):
        """Cliques and full webs of two sides with at most twenty places in all, in which no place has more ties."""
        blocks, left = [], 20
        while left > 0:
            block = Web.full(most + 1) if chance.random() < 0.5 else Web(most) + Web(most)
            if block.size > left:
                block = Web.full(min(left, most + 1))
            blocks.append(block)
            left -= block.size
        return blocks

    def test_solo_places_are_moved(self):
        for web in KNOTTY:
            for order in (tuple(range(web.size)), tuple(range(web.size))[::-1]):
                self.assert_found(rearranged(web, order), web.most + 1, True)

    def test_places_are_traded(self):
        # No small web needs this way, so a row is made in which no place that is solo can be moved.
        for seed in range(40):
            beside, row = solo_row(random.Random(seed))
            self.assert_row(beside, row, [9, 10, 10, 10, 10, 11])
            found = links_between(beside, row, list(range(6)))
            onward = onward_to(found, list(range(6)), 0)
            self.assertEqual(sorted(onward), [0, 1, 2, 3])
            solos = finding._solos(beside, row, [4, 5], finding._last_hues(found, onward, 0))
            self.assertIsNone(finding._solo_step(row, found, onward, solos))
            traded = list(row)
            great = finding._trade(beside, traded, [4, 5], solos, 5)
            self.assert_row(beside, traded, [9, 10, 10, 10, 10 + (great == 4), 10 + (great == 5)])
            more = onward_to(links_between(beside, traded, list(range(6))), list(range(6)), 0)
            self.assertGreater(len(more), len(onward))
            finding._even_out(beside, row, list(range(6)), 0, 5)
            self.assert_row(beside, row, [10] * 6)

    def assert_row(self, beside, row, counted):
        self.assertEqual([row.count(hue) for hue in range(6)], counted)
        self.assertTrue(all(row[one] != row[other] for one in range(60) for other in beside[one]))

    def test_errors(self):
        for call in (level_colouring, has_level):
            self.assert_finding_errors(call)
            self.assert_too_many(call)


def solo_row(chance):
    """Neighbours and a row of six hues, of which the hue 0 has a place too few and the hue 5 one too many.

    Three hues reach the hue 0. Each has eight places with two ties to places behind and one to each other hue, and
    two places with five ties to places behind only; so each solo place is tied into all hues but those behind.
    The first solo place that is looked at has two places behind that are tied to one another.
    """
    row = [0] * 9 + [1] * 10 + [2] * 10 + [3] * 10 + [4] * 10 + [5] * 11
    rest = chance.sample(range(40, 60), 20)
    pair = (39, max(rest))
    behind = [place for place in rest if place not in pair]
    ties = [pair]
    firsts = [list(range(start, start + 8)) for start in (9, 19, 29)]
    for at, places in enumerate(firsts):
        double = behind[5 * at:5 * at + 5]
        ties += itertools.product((places[-1] + 1, places[-1] + 2), double)
        others = [place for place in behind if place not in double]
        chance.shuffle(others)
        ties += zip(places * 2, [pair[0], *others[:7], pair[1], *others[7:]])
    for one, other in itertools.combinations(firsts, 2):
        ties += zip(one, chance.sample(other, 8))
    needy = [*itertools.chain(*firsts), *pair, *behind]
    chance.shuffle(needy)
    ties += [(place, at % 9) for at, place in enumerate(needy)]
    return [[other for tie in ties if place in tie for other in tie if other != place] for place in range(60)], row


class LevelPaperTest(FindingCase):
    def test_small_webs(self):
        for web in SMALL:
            for hues in range(1, web.size + 2):
                self.assert_paper(web, hues, plain_has_level(web, hues))

    def assert_paper(self, web, hues, there):
        found = level_paper(web, hues)
        self.assertEqual((type(found), len(found), found[0]), (tuple, 2, "colouring" if there else "bar"))
        if there:
            self.assert_level(web, hues, found[1])
        else:
            self.assertIs(is_bar(web, hues, found[1]), True)
        self.assertIs(is_level_paper(web, hues, found), True)

    def test_up_to_twenty_places(self):
        for web in TWELVE[::3]:
            for hues in (1, 2, 3, 5, 7, 11, 12, 20):
                self.assert_paper(web, hues, bar(web, hues) is None)
        for web in LARGE[::2]:
            if web.most < 20:
                self.assert_paper(web, web.most + 1, True)

    def test_errors(self):
        self.assert_finding_errors(level_paper)
        self.assert_too_many(level_paper)


class IsLevelPaperTest(FindingCase):
    def test_all_rows_of_small_webs(self):
        for web in [*SMALL[::5], SIDES]:
            for hues in range(1, 4):
                told = level_colourings(web, hues)
                for row in itertools.product(range(hues), repeat=web.size):
                    self.assertIs(is_level_paper(web, hues, ("colouring", row)), row in told)

    def test_bars(self):
        cases = ("cases", (((), 0), ((0, 1), 1), ((0, 2), 1)))
        self.assertIs(is_level_paper(SIDES, 3, ("bar", cases)), True)
        self.assertIs(is_level_paper(SIDES, 3, ("bar", ("cases", cases[1][:2]))), False)
        self.assertIs(is_level_paper(SIDES, 2, ("bar", cases)), False)
        self.assertIs(is_level_paper(SIDES, 3, cases), False)
        self.assertIs(is_level_paper(PAIRS, 2, ("bar", ("clique", (0, 1, 2)))), True)
        self.assertIs(is_level_paper(PAIRS, 2, ("colouring", ("clique", (0, 1, 2)))), False)
        self.assertIs(is_level_paper(STAR, 3, ("bar", ("place", 0, ()))), True)
        self.assertIs(is_level_paper(STAR, 3, ("bar", ("place", 1, ()))), False)

    def test_words_that_stand_for_nothing(self):
        for word in ("", "Bar", "bars", "clique", None, 0, True):
            self.assertIs(is_level_paper(PAIRS, 2, (word, ("clique", (0, 1, 2)))), False)
            self.assertIs(is_level_paper(RING, 3, (word, (0, 1, 0, 1, 2))), False)

    def test_changed_in_one_thing(self):
        row = (0, 1, 0, 1, 2)
        self.assertIs(is_level_paper(RING, 3, ("colouring", row)), True)
        changed = [
            row, ("colouring",), ("colouring", row, 0), ["colouring", row], ("colouring", list(row)), ("coloring", row),
            ("bar", row), (row, "colouring"), ("colouring", (0, 1, 0, 1, 3)), ("colouring", (0, 1, 0, 1, 0)),
            ("colouring", (0, 1, 0, 2, 2)), ("colouring", (0, True, 0, 1, 2)), ("colouring", (0, 1, 0, 1)), ("colouring", None),
            ("colouring", (0, 1, 0, 1, 2, 2)), (None, row), (0, row), (("colouring",), row), ("colouring", (row,)), (),
        ]
        for value in changed:
            with self.subTest(value=value):
                self.assertIs(is_level_paper(RING, 3, value), False)
        self.assertIs(is_level_paper(RING, 4, ("colouring", row)), False)

    def test_any_value(self):
        for web, hues in ((Web(1), 3), (RING, 2), (BARE, 1), (FULL, 20), (TWELVE[0], 2)):
            for value in any_values():
                for told in (value, ("colouring", value), ("bar", value), (value, EVERY)):
                    with self.subTest(value=repr(told)):
                        wanted = web.size == 1 and repr(told) == "('colouring', (0,))"
                        self.assertIs(is_level_paper(web, hues, told), wanted)

    def test_twenty_places(self):
        self.assertIs(is_level_paper(FULL, 20, ("colouring", EVERY)), True)
        self.assertIs(is_level_paper(FULL, 20, ("colouring", EVERY[::-1])), True)
        self.assertIs(is_level_paper(FULL, 20, ("colouring", (*EVERY[:-1], 0))), False)
        self.assertIs(is_level_paper(BARE, 3, ("colouring", (0, 1, 2) * 6 + (1, 2))), True)
        self.assertIs(is_level_paper(BARE, 3, ("colouring", (0, 1, 2) * 6 + (1, 1))), False)

    def test_errors(self):
        self.assert_finding_errors(is_level_paper, judged(("colouring", (0, 1, 0, 1, 2, 2))))
        self.assert_too_many(is_level_paper, None)
        self.assert_too_many(is_level_paper, ("colouring", EVERY))


class LevelNumbersTest(FindingCase):
    def assert_numbers(self, web, wanted):
        """Check the numbers, the least of them, and that from which on all are there."""
        self.assert_same(level_numbers(web), tuple(wanted))
        self.assert_same(fewest_level(web), min(wanted))
        from_here = [least for least in wanted if set(range(least, web.size + 1)) <= set(wanted)]
        self.assert_same(level_from(web), min(from_here))
        self.assertLessEqual(level_from(web), web.most + 1)

    def test_small_webs(self):
        for web in SMALL:
            self.assert_numbers(web, [hues for hues in range(1, web.size + 1) if plain_has_level(web, hues)])

    def test_twelve_places(self):
        for web in TWELVE:
            self.assert_numbers(web, [hues for hues in range(1, 13) if bar(web, hues) is None])
        self.assert_numbers(Web(6) + Web(6), [2, 4, *range(5, 13)])
        self.assert_numbers(Web.full(10) + Web(2), [11, 12])

    def test_edges(self):
        self.assert_numbers(Web(1), [1])
        self.assert_numbers(Web.full(10), [10])
        self.assert_numbers(Web(10), range(1, 11))
        self.assert_numbers(SIDES, (2, 4, 5, 6))
        # Without ties each number is greater than the greatest degree.
        self.assert_numbers(BARE, range(1, 21))
        self.assert_numbers(Web(10) | Web(3), range(1, 14))

    def test_errors(self):
        for call in (level_numbers, fewest_level, level_from):
            self.assert_order(call, (SIDES, wrong_webs(), InvalidWeb))
            for web in LARGE:
                if web.size > 12 and web.ties:
                    self.assert_keeps(TooMany, 12, call, web)
            self.assert_keeps(TooMany, 12, call, Web(10) | Web.path(3))
            self.assert_keeps(TooMany, 12, call, Web(10) | Web(1) | Web.path(2))


class LevelAgainTest(FindingCase):
    def assert_again(self, web, hues, row, fewest):
        """Check that a level colouring is found at which so many places differ."""
        found = level_again(web, hues, row)
        self.assert_level(web, hues, found)
        self.assertEqual(len(recoloured(row, found)), fewest)

    def test_small_webs(self):
        for web in [*all_webs(3), *SMALL[12::6], SIDES]:
            for hues in range(1, 5 if web.size < 5 else 4):
                told = level_colourings(web, hues)
                for row in list(itertools.product(range(hues), repeat=web.size))[::1 if web.size < 5 else 11]:
                    if told:
                        fewest = min(sum(map(int.__ne__, row, other)) for other in told)
                        self.assert_again(web, hues, row, fewest)
                    else:
                        self.assert_keeps(Refused, "level", level_again, web, hues, row)

    def test_seven_and_eight_places(self):
        chance = random.Random(47)
        for web in some_webs(48, 12, 7, 8):
            told = level_colourings(web, 3)
            for _ in range(20):
                row = tuple(chance.randrange(3) for _ in range(web.size))
                if told:
                    self.assert_again(web, 3, row, min(sum(map(int.__ne__, row, other)) for other in told))
                else:
                    self.assert_keeps(Refused, "level", level_again, web, 3, row)

    def test_more_hues_than_places(self):
        for hues in range(5, 21):
            self.assert_again(RING, hues, (0,) * 5, 4)
            self.assert_again(RING, hues, (0, 1, 2, 3, 4), 0)
            self.assert_again(RING, hues, (4, 4, 0, 4, 0), 3)
            self.assert_again(RING, hues, (hues - 1, 1, hues - 1, 1, 0), 2)
        for hues in range(12, 21):
            self.assert_again(Web(10) | Web(2), hues, (hues - 1,) * 12, 11)
            self.assert_again(Web.full(10) + Web(2), hues, (0, 1) * 6, 10)

    def test_twelve_places(self):
        web = Web(6) + Web(6)
        self.assert_again(web, 2, (0,) * 6 + (1,) * 6, 0)
        self.assert_again(web, 2, (0,) * 5 + (1,) * 7, 1)
        self.assert_again(web, 2, (0, 1) * 6, 6)
        self.assert_again(web, 5, (0,) * 6 + (1,) * 6, 7)
        self.assert_keeps(Refused, "level", level_again, web, 3, (0,) * 6 + (1,) * 6)
        bare = Web(10) | Web(2)
        for hues in range(1, 12):
            fewest = 12 - (12 // hues + (12 % hues > 0))
            self.assert_again(bare, hues, (hues - 1,) * 12, fewest)
        self.assert_again(Web.full(10) + Web(2), 11, (*range(10), 10, 0), 1)
        self.assert_again(round_web(12, (1,)), 3, (0, 1, 2) * 4, 0)
        self.assert_again(round_web(12, (1,)), 2, (0, 1) * 5 + (0, 0), 1)
        for web in TWELVE[::4]:
            for hues in (2, 5, 8):
                row = tuple(place * place % hues for place in range(12))
                if bar(web, hues) is None:
                    again = level_again(web, hues, row)
                    self.assert_level(web, hues, again)
                    self.assert_again(web, hues, again, 0)
                else:
                    self.assert_keeps(Refused, "level", level_again, web, hues, row)

    def test_errors(self):
        row = (0, 0, 0, 1, 1, 2)
        wrong = [
            *any_values(), list(row), row[1:], (*row, 0), (3, *row[1:]), (-1, *row[1:]), (*row[1:], None), (*row[1:], True),
            (*row[1:], "0"), (*row[1:], (0,)), (HUGE, *row[1:]),
        ]
        self.assert_order(
            level_again, (STAR, wrong_webs(), InvalidWeb), (4, wrong_numbers(1, 20), InvalidNumber),
            (row, but([*wrong, (4, *row[1:])], (3, *row[1:])), InvalidRow),
        )
        self.assert_keeps(Refused, "level", level_again, STAR, 3, row)
        self.assert_keeps(Refused, "level", level_again, Web.path(2), 1, (0, 0))
        self.assert_keeps(Refused, "level", level_again, RING, 2, (0, 1, 0, 1, 1))
        self.assert_raises(InvalidRow, level_again, RING, 2, (0, 1, 0, 1, 2))
        # Each web with more than twelve places is too large, also with hues enough.
        for web in LARGE:
            if web.size > 12:
                for hues in (1, 20):
                    self.assert_keeps(TooMany, 12, level_again, web, hues, (0,) * web.size)
                    self.assert_raises(InvalidRow, level_again, web, hues, (0,) * (web.size - 1))
                    self.assert_raises(InvalidRow, level_again, web, hues, (hues,) * web.size)


class RecolouredTest(Case):
    def test_all_small_rows(self):
        for size in range(1, 5):
            for row, other in itertools.product(itertools.product(range(3), repeat=size), repeat=2):
                wanted = tuple(at for at in range(size) if row[at] != other[at])
                self.assert_same(recoloured(row, other), wanted)

    def test_edges(self):
        self.assert_same(recoloured((0,), (HUGE,)), (0,))
        self.assert_same(recoloured(EVERY, EVERY[::-1]), EVERY)
        self.assert_same(recoloured(EVERY, (*EVERY[:-1], 0)), (19,))

    def test_errors(self):
        wrong = wrong_rows()
        self.assert_order(recoloured, ((0, 1, 2), wrong, InvalidRow), ((0, 1, 1), wrong, InvalidRow))
        for row, other in (((0,), (0, 0)), ((0, 1), (0,)), (EVERY, EVERY[1:])):
            self.assert_raises(InvalidOperation, recoloured, row, other)
        self.assert_raises(InvalidRow, recoloured, (0,), EVERY + (0,))


class PromiseTest(FindingCase):
    def test_hues_as_many_as_places(self):
        for web in SMALL:
            for hues in (web.size, web.size + 1):
                for row in itertools.islice(itertools.product(range(hues), repeat=web.size), 0, None, 7):
                    wanted = is_proper(web, row) and len(set(row)) == web.size
                    self.assertIs(is_level_paper(web, hues, ("colouring", row)), wanted)

    def test_what_is_not_true(self):
        # A level colouring, but none with one hue more; no clique has more places than there are hues.
        self.assertEqual([has_level(SIDES, 2), has_level(SIDES, 3), len(greatest_clique(SIDES))], [True, False, 2])
        # A colouring, but no level one.
        self.assertTrue(is_proper(STAR, (0, 1, 1, 1, 1, 1)))
        self.assertIs(has_level(STAR, 2), False)
        # There are more hues than the greatest degree, but no chain goes to a lesser hue.
        self.assertEqual((evened(SIDES, 4, (0, 0, 0, 1, 2, 3)), is_level((0, 0, 0, 1, 2, 3), 4)), ((), False))
        self.assertIs(has_level(SIDES, 4), True)


class InterfaceTest(Case):
    def test_constant(self):
        self.assert_same(finding.MAX_SEARCHED, 12)

    def test_each_function_is_defined_in_the_file(self):
        names = (
            "level_colouring has_level level_paper is_level_paper level_numbers fewest_level level_from level_again recoloured"
        )
        for name in names.split():
            self.assertEqual(getattr(finding, name).__module__, "levelhues.level.finding")


if __name__ == "__main__":
    unittest.main()
