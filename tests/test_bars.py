"""Tests of bars: those found, and those judged, held against the words of the document."""

import itertools
import unittest

from levelhues.base.webs import Web
from levelhues.errors import InvalidNumber, InvalidWeb, TooMany
from levelhues.level import bars
from levelhues.level.bars import bar, cases_bar, clique_bar, is_bar, place_bar
from plain import (
    BARE,
    FULL,
    LOTS,
    TIGHT,
    TRIANGLES,
    are_tied,
    ascending_tuples,
    has_level,
    is_apart,
    is_clique,
    round_web,
    side_by_side,
    some_webs,
)
from samples import (
    HUGE,
    PAIRS,
    RING,
    SIDES,
    STAR,
    Case,
    all_webs,
    any_values,
    judged,
    wrong_numbers,
    wrong_webs,
)

SMALL = [*all_webs(4), *all_webs(5)[-1024::23], RING, STAR, SIDES, PAIRS, *some_webs(31, 12, 6, 6)]
CASES = ("cases", (((), 0), ((0, 1), 1), ((0, 2), 1), ((1, 2), 1)))
# Ten places on each side: with three hues one side would have to part ten places into sixes and sevens.
LOTS_TABLE = (((), 0), *sorted(((0, *chosen), 1) for many in (5, 6) for chosen in itertools.combinations(range(1, 10), many)))


def plain_is_clique_bar(web, hues, value):
    return len(value[1]) > hues and is_clique(web, value[1])


def plain_is_place_bar(web, hues, value):
    place, cliques = value[1:]
    others = [other for other in range(web.size) if other != place and not are_tied(web, place, other)]
    told = sorted(other for clique in cliques for other in clique)
    fits = all(clique and is_clique(web, clique) for clique in cliques)
    return fits and told == others and len(cliques) < web.size // hues - 1


def plain_is_table(web, hues, table):
    """Tell by the words of the document whether an ascending tuple of right pairs is a bar's table."""
    least, greater = divmod(web.size, hues)
    every = tuple(range(web.size))
    if least < 1 or ((), 0) not in table or any(places == every for places, _ in table):
        return False
    for places, used in table:
        free = [place for place in every if place not in places]
        for chosen in ascending_tuples(web.size):
            fits = chosen and chosen[0] == free[0] and set(chosen) <= set(free) and len(chosen) in (least, least + 1)
            both = tuple(sorted((*places, *chosen)))
            if used < hues and fits and is_apart(web, chosen) and len(both) <= least * (used + 1) + greater:
                if (both, used + 1) not in table:
                    return False
    return True


def cliques_over(web, places):
    """All ways to part places into cliques."""
    if not places:
        return [()]
    found = []
    for many in range(len(places)):
        for others in itertools.combinations(places[1:], many):
            if is_clique(web, (places[0], *others)):
                left = [place for place in places[1:] if place not in others]
                found.extend([((places[0], *others), *rest) for rest in cliques_over(web, left)])
    return found


def all_place_bars(web, hues):
    """All bars of the second kind, each with its cliques in one order."""
    found = []
    for place in range(web.size):
        others = [other for other in range(web.size) if other != place and not are_tied(web, place, other)]
        for cliques in cliques_over(web, others):
            if len(cliques) < web.size // hues - 1:
                found.append(("place", place, cliques))
    return found


class BarCase(Case):
    def assert_bar(self, web, hues, value):
        """Check that a value is a bar by the words of the document, and by the judge."""
        self.assertIs(type(value), tuple)
        plain = {"clique": plain_is_clique_bar, "place": plain_is_place_bar}
        if value[0] == "cases":
            self.assertTrue(plain_is_table(web, hues, value[1]))
        else:
            self.assertTrue(plain[value[0]](web, hues, value))
        self.assertIs(is_bar(web, hues, value), True)

    def assert_bar_errors(self, call, *more):
        self.assert_order(call, (SIDES, wrong_webs(), InvalidWeb), (3, wrong_numbers(1, 20), InvalidNumber), *more)


class CliqueBarTest(BarCase):
    def test_small_webs(self):
        for web in SMALL:
            for hues in range(1, 8):
                cliques = [places for places in ascending_tuples(web.size) if is_clique(web, places)]
                found = clique_bar(web, hues)
                self.assertIs(found is not None, max(map(len, cliques)) > hues)
                if found:
                    self.assertEqual(found[0], "clique")
                    self.assert_bar(web, hues, found)
                for places in cliques:
                    self.assertIs(is_bar(web, hues, ("clique", places)), len(places) > hues)

    def test_up_to_twenty_places(self):
        every = tuple(range(20))
        self.assert_same(clique_bar(FULL, 19), ("clique", every))
        self.assertIsNone(clique_bar(FULL, 20))
        self.assertIs(is_bar(FULL, 19, ("clique", every)), True)
        self.assertIs(is_bar(FULL, 19, ("clique", every[:-1])), False)
        self.assertIs(is_bar(FULL.untied(3, 19), 19, ("clique", every)), False)
        self.assert_bar(TRIANGLES, 2, clique_bar(TRIANGLES, 2))
        self.assertIsNone(clique_bar(TRIANGLES, 3))
        self.assertIsNone(clique_bar(BARE, 1))
        self.assert_bar(LOTS, 1, clique_bar(LOTS, 1))
        self.assertIsNone(clique_bar(LOTS, 2))

    def test_errors(self):
        self.assert_bar_errors(clique_bar)


class PlaceBarTest(BarCase):
    def test_small_webs(self):
        for web in SMALL:
            for hues in range(1, 8):
                told = all_place_bars(web, hues)
                found = place_bar(web, hues)
                self.assertIs(found is not None, bool(told))
                if found:
                    self.assertEqual(found[0], "place")
                    self.assert_bar(web, hues, found)

    def test_each_one_is_accepted(self):
        for web in [*SMALL[::5], RING, STAR, SIDES, PAIRS]:
            for hues in range(1, 4):
                for value in all_place_bars(web, hues):
                    self.assertIs(is_bar(web, hues, value), True)
                    self.assertIs(is_bar(web, hues, ("place", value[1], value[2][::-1])), True)

    def test_ones_changed_in_one_thing(self):
        web = Web(1) + side_by_side(Web.full(3), Web(1)) | side_by_side(Web.full(3), Web.full(2))
        cliques = ((5, 6, 7), (8, 9))
        self.assertEqual(web.size // 2, 5)
        self.assertIs(is_bar(web, 2, ("place", 0, cliques)), True)
        changed = [
            ("place", 0, ((5, 6, 7), (8,))), ("place", 0, ((5, 6, 7), (8, 9), ())), ("place", 0, ((5, 6), (7, 8, 9))),
            ("place", 0, ((5, 6, 7), (8, 9), (4,))), ("place", 0, ((5, 6, 7), (9, 8))), ("place", 0, ((5, 6, 7, 7), (8, 9))),
            ("place", 0, ((5, 6, 7), (7,), (8, 9))), ("place", 0, ((0,), (5, 6, 7), (8, 9))), ("place", 1, cliques),
            ("place", 0, ((5, 6, 7),)), ("place", 0, [(5, 6, 7), (8, 9)]), ("place", 0, ([5, 6, 7], (8, 9))),
            ("place", False, cliques), ("place", "0", cliques), ("place", -10, cliques), ("place", -1, cliques), ("place", 10, cliques),
            ("place", None, cliques), ("place", 0, cliques, 0), ("place", 0), ("clique", 0, cliques), ("cases", 0, cliques),
            ["place", 0, cliques], ("Place", 0, cliques), (0, "place", cliques), ("place", cliques, 0),
            ("place", 0, ((5, 6, 7), (8,), (9,), (1,))), ("place", 0, ((5, 6, 7), (8, True))), ("place", HUGE, cliques),
            ("place", 0, (5, 6, 7, 8, 9)), ("place", 0, ((5, 6, 7), 8, 9)), ("place", 0, ((5, 6, 7), None)),
        ]
        for value in changed:
            with self.subTest(value=value):
                self.assertIs(is_bar(web, 2, value), False)
        # One clique more is one too many with so many hues, but not with fewer.
        more = ("place", 0, ((5,), (6, 7), (8,), (9,)))
        self.assertIs(is_bar(web, 2, more), False)
        self.assertIs(is_bar(web, 1, more), True)
        self.assertIs(is_bar(web, 3, ("place", 0, cliques)), False)

    def test_up_to_twenty_places(self):
        star = Web(1) + (Web(9) | Web(10))
        self.assertIs(is_bar(star, 9, ("place", 0, ())), True)
        self.assertIs(is_bar(star, 10, ("place", 0, ())), True)
        self.assertIs(is_bar(star, 11, ("place", 0, ())), False)
        self.assertIs(is_bar(TRIANGLES, 2, ("place", 18, tuple((at, at + 1, at + 2) for at in range(0, 18, 3)))), True)
        self.assertIs(is_bar(TRIANGLES, 3, ("place", 18, tuple((at, at + 1, at + 2) for at in range(0, 18, 3)))), False)
        twelve = Web(1) + (Web(1) | Web(10))
        self.assert_bar(twelve, 6, ("place", 0, ()))
        self.assert_bar(twelve, 6, place_bar(twelve, 6))
        self.assertIsNone(place_bar(twelve, 7))
        for web in [web for web in some_webs(32, 12, 11, 12) if web.size == 12]:
            for hues in (1, 2, 3, 4, 6, 12, 20):
                found = place_bar(web, hues)
                if found is not None:
                    self.assert_bar(web, hues, found)

    def test_errors(self):
        self.assert_bar_errors(place_bar)
        for web in (BARE, FULL, Web(10) | Web(3)):
            self.assert_keeps(TooMany, 12, place_bar, web, 1)
            self.assert_keeps(TooMany, 12, place_bar, web, 20)
            self.assert_keeps(InvalidNumber, 0, place_bar, web, 0)
        self.assertIsNone(place_bar(Web(10) | Web(2), 12))


class CasesBarTest(BarCase):
    def test_small_webs(self):
        for web in SMALL:
            for hues in range(1, 8):
                found = cases_bar(web, hues)
                wanted = not has_level(web, hues)
                self.assertIs(found is not None, wanted)
                if found:
                    self.assertEqual(found[0], "cases")
                    self.assert_bar(web, hues, found)

    def test_tables_changed_in_one_thing(self):
        for web, hues in ((SIDES, 3), (STAR, 3), (PAIRS, 2), (RING, 2), (Web.full(5), 4), (Web.path(2), 1)):
            table = cases_bar(web, hues)[1]
            for at in range(len(table)):
                fewer = table[:at] + table[at + 1:]
                self.assertIs(is_bar(web, hues, ("cases", fewer)), plain_is_table(web, hues, fewer))
            more = [
                (places, used) for places in ascending_tuples(web.size) for used in (-HUGE, -2, -1, 0, 1, 2, 3, hues, HUGE)
            ]
            for pair in more[::1 if web.size < 6 else 5]:
                wider = tuple(sorted({*table, pair}))
                self.assertIs(is_bar(web, hues, ("cases", wider)), plain_is_table(web, hues, wider))

    def test_tables_that_are_not_the_least(self):
        # All sets but that of all places, with all numbers, want nothing more.
        for web, hues in ((SIDES, 3), (RING, 2), (STAR, 3)):
            every = ascending_tuples(web.size)[:-1]
            table = tuple(sorted((places, used) for places in every for used in range(-3, hues + 2)))
            self.assertEqual(is_bar(web, hues, ("cases", table)), plain_is_table(web, hues, table))
        self.assertIs(is_bar(SIDES, 3, ("cases", tuple(sorted((*CASES[1], ((5,), 3)))))), True)
        self.assertIs(is_bar(SIDES, 3, ("cases", tuple(sorted((*CASES[1], ((0, 1, 2), 2)))))), False)
        self.assertIs(is_bar(SIDES, 3, ("cases", tuple(sorted((*CASES[1], ((0, 1, 2, 3, 4, 5), 9)))))), False)

    def test_other_tables(self):
        changed = [
            (), ((), 0), (((), 0),), CASES[1][1:], CASES[1][::-1], (*CASES[1], CASES[1][-1]), list(CASES[1]), CASES,
            (((), False), *CASES[1][1:]), ([(), 0], *CASES[1][1:]), (((), 0, 0), *CASES[1][1:]), ((0, ()), *CASES[1][1:]),
            (*CASES[1][:-1], ((2, 1), 1)), (*CASES[1][:-1], ((1, 2), True)), (*CASES[1][:-1], ([1, 2], 1)),
            (*CASES[1][::2], CASES[1][-1]), (*CASES[1], ((1, 6), 1)), (*CASES[1], ((1, 2), "1")), (*CASES[1], None),
            (*CASES[1], ((1, 2), None)), (*CASES[1], ((1, 2),)), (*CASES[1], ((-1, 2), 1)), (*CASES[1], ((1, 2, 2), 1)),
            {CASES[1]: 0}, "cases", None, 0, (None,), ((((), 0),),),
        ]
        for table in changed:
            with self.subTest(table=table):
                self.assertIs(is_bar(SIDES, 3, ("cases", table)), False)
        self.assertIs(is_bar(SIDES, 3, ("cases", CASES[1], 0)), False)
        for word in ("", "case", "Cases", "clique", "place", None, 0):
            self.assertIs(is_bar(SIDES, 3, (word, CASES[1])), False)
        self.assertIs(is_bar(SIDES, 3, ["cases", CASES[1]]), False)
        self.assertIs(is_bar(SIDES, 2, CASES), False)
        self.assertIs(is_bar(Web.full(3), 4, ("cases", (((), 0),))), False)

    def test_up_to_twenty_places(self):
        self.assertEqual(len(LOTS_TABLE), 211)
        self.assertIs(is_bar(LOTS, 3, ("cases", LOTS_TABLE)), True)
        for at in range(0, 211, 10):
            self.assertIs(is_bar(LOTS, 3, ("cases", LOTS_TABLE[:at] + LOTS_TABLE[at + 1:])), False)
        self.assertIs(is_bar((Web(10) | Web(1)) + Web(9), 3, ("cases", LOTS_TABLE)), False)
        self.assertIs(is_bar(FULL, 10, ("cases", (((), 0), ((0,), 1)))), True)
        self.assertIs(is_bar(FULL, 10, ("cases", (((), 0),))), True)
        self.assertIs(is_bar(BARE, 2, ("cases", (((), 0),))), False)
        self.assertIs(is_bar(BARE, 20, ("cases", tuple((tuple(range(at)), at) for at in range(20)))), False)
        self.assertIs(is_bar(FULL, 19, ("cases", tuple((tuple(range(at)), at) for at in range(20)))), True)
        for web in (Web(6) + Web(6), round_web(12, (1, 2)), ~round_web(11, (1,)), *some_webs(33, 15, 11, 12)):
            for hues in range(1, web.most + 1):
                found = cases_bar(web, hues)
                if found is not None:
                    self.assertIs(is_bar(web, hues, found), True)
                    self.assertLessEqual(len(found[1]), 20000)

    def test_errors(self):
        self.assert_bar_errors(cases_bar)
        for web in (BARE, FULL, Web(10) | Web(3)):
            self.assert_keeps(TooMany, 12, cases_bar, web, 1)
            self.assert_keeps(TooMany, 12, cases_bar, web, 20)
            self.assert_keeps(InvalidNumber, 21, cases_bar, web, 21)
        self.assertIsNone(cases_bar(Web(10) | Web(2), 12))


class BarTest(BarCase):
    def test_small_webs(self):
        for web in SMALL:
            for hues in range(1, 8):
                found = bar(web, hues)
                self.assertIs(found is not None, not has_level(web, hues))
                if found:
                    self.assert_bar(web, hues, found)

    def test_up_to_twenty_places(self):
        for web in [web for web in [*TIGHT, *some_webs(34, 20, 12, 20)] if web.most < 20]:
            for hues in {web.most + 1, 20}:
                self.assertIsNone(bar(web, hues))
            for hues in {1, web.most}:
                if web.size > 12 and 1 <= hues <= web.most:
                    self.assert_keeps(TooMany, 12, bar, web, hues)
        self.assertIsNone(bar(Web(6) + Web(6), 2))
        self.assert_bar(Web(6) + Web(6), 3, bar(Web(6) + Web(6), 3))
        self.assertIsNone(bar(Web(6) + Web(6), 5))
        for web in (Web(7) + Web(5), ~round_web(12, (1,)), Web.full(12 - 2) | Web(2)):
            for hues in range(1, web.most + 1):
                found = bar(web, hues)
                if found is not None:
                    self.assertIs(is_bar(web, hues, found), True)

    def test_errors(self):
        self.assert_bar_errors(bar)
        for hues in (0, 21, None):
            self.assert_keeps(InvalidNumber, hues, bar, FULL, hues)


class IsBarTest(BarCase):
    def test_any_value(self):
        for web, hues in ((Web(1), 1), (RING, 2), (SIDES, 3), (BARE, 1), (FULL, 19)):
            for value in any_values():
                for told in (value, ("clique", value), ("place", value, value), ("place", 0, value), ("cases", value)):
                    with self.subTest(value=repr(told)):
                        self.assertIs(is_bar(web, hues, told), False)
                self.assertIs(is_bar(web, hues, (value, ())), False)
                self.assertIs(is_bar(web, hues, (value, 0, ())), False)

    def test_cliques_changed_in_one_thing(self):
        self.assertIs(is_bar(PAIRS, 2, ("clique", (3, 4, 5))), True)
        changed = [
            ("clique", (3, 4)), ("clique", (3, 5, 4)), ("clique", [3, 4, 5]), ("clique", (2, 3, 4)), ("clique", (4, 5, 6)),
            ("clique", (0, True, 2)), ("clique", (0, 1, 2), ()), ("clique",), ("clique", (0, 1, 2), (), ()), ["clique", (0, 1, 2)], ("cliques", (0, 1, 2)),
            ("clique", (0, 0, 1)), ("clique", (0, 1, 2, 2)), ("place", (0, 1, 2)), ("cases", (0, 1, 2)), ((0, 1, 2), "clique"),
            ("clique", (-1, 0, 1)), ("clique", "012"), ("clique", {0: 1, 1: 1, 2: 1}), (b"clique", (0, 1, 2)),
        ]
        for value in changed:
            with self.subTest(value=value):
                self.assertIs(is_bar(PAIRS, 2, value), False)

    def test_there_is_no_bar_beside_a_level_colouring(self):
        for web in SMALL[::3]:
            for hues in range(1, web.size + 1):
                if has_level(web, hues):
                    for other in range(1, web.size + 1):
                        found = bar(web, other)
                        self.assertIs(found is None or not is_bar(web, hues, found), True)

    def test_errors(self):
        self.assert_bar_errors(is_bar, judged(CASES))


class InterfaceTest(Case):
    def test_each_function_is_defined_in_the_file(self):
        for name in "is_bar clique_bar place_bar cases_bar bar".split():
            self.assertEqual(getattr(bars, name).__module__, "levelhues.level.bars")


if __name__ == "__main__":
    unittest.main()
