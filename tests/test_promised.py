"""Tests of thin orders, thick cores and promised level colourings, held against plain looks at all sets and orders."""

import itertools
import random
import unittest

from levelhues.base.joined import pieces, ring
from levelhues.base.webs import Web
from levelhues.errors import InvalidNumber, InvalidOperation, InvalidWeb
from levelhues.hue.judged import greedy, is_colouring
from levelhues.level.finding import has_level, level_colouring
from levelhues.level.promised import (
    has_level_at_most,
    is_odd_shape,
    is_thick_core,
    is_thin_order,
    odd_shape,
    promised_from,
    thick_core,
    thickness,
    thin_order,
    tie_sum,
)
from plain import (
    BARE,
    FULL,
    LOTS,
    TIGHT,
    TRIANGLES,
    are_tied,
    ascending_tuples,
    bounded_web,
    is_apart,
    is_clique,
    is_level,
    is_proper,
    round_web,
    side_by_side,
    some_webs,
)
from samples import HUGE, PAIRS, RING, SIDES, STAR, Case, all_webs, any_values, but, judged, wrong_numbers, wrong_webs

SMALL = [*all_webs(4), *all_webs(5)[-1024::5], RING, STAR, SIDES, PAIRS]
LONG = side_by_side(Web.path(10), Web.path(10)).tied(9, 10)
ODD_RING = round_web(19, (1,))
EVEN_RING = round_web(20, (1,))


def ties_into(web, place, places):
    return sum(are_tied(web, place, other) for other in places if other != place)


def plain_is_thin_order(web, number, order):
    return all(ties_into(web, place, order[:at]) <= number for at, place in enumerate(order))


def plain_is_thick_core(web, number, places):
    return bool(places) and all(ties_into(web, place, places) > number for place in places)


def plain_thickness(web):
    sets = [places for places in ascending_tuples(web.size) if places]
    return max(min(ties_into(web, place, places) for place in places) for places in sets)


def plain_odd_shapes(web):
    """All odd shapes of a web in one piece, by the words of the document."""
    every = tuple(range(web.size))
    most = max(len(web[place]) for place in every)
    found = []
    if is_clique(web, every):
        found.append(("full", every))
    if most == 2 and web.size % 2 == 1:
        for order in itertools.permutations(every):
            if all(are_tied(web, one, other) for one, other in zip(order, order[1:] + order[:1])):
                found.append(("ring", order))
    if most % 2 == 1 and web.size == 2 * most:
        for one in itertools.combinations(every, most):
            other = tuple(place for place in every if place not in one)
            tied = all(are_tied(web, place, goal) for place in one for goal in other)
            if tied and is_apart(web, one) and is_apart(web, other):
                found.append(("lots", one, other))
    return found


def is_shaped(web):
    return len(pieces(web)) == 1 and 1 <= web.most <= 4


def shaped_webs():
    """Webs in one piece with a greatest degree from 1 to 4."""
    webs = [*all_webs(4), *all_webs(5)[-1024:], *some_webs(151, 300, 6, 7)]
    chance = random.Random(152)
    webs += [bounded_web(chance, chance.randint(6, 8), chance.randint(2, 4)) for _ in range(200)]
    webs += [ring(6), ring(7), SIDES, Web(2) + Web(2), Web.path(2), Web.full(5)]
    return [web for web in webs if is_shaped(web)]


def in_other_places(chance, web):
    """The same web with its places in another order."""
    row = chance.sample(range(web.size), web.size)
    ties = sorted(tuple(sorted((row[one], row[other]))) for one, other in web.ties)
    bare = web - web
    for tie in ties:
        bare = bare.tied(*tie)
    return bare


class ThicknessTest(Case):
    def test_small_webs(self):
        for web in [*SMALL, *some_webs(153, 12, 6, 8)]:
            self.assert_same(thickness(web), plain_thickness(web))

    def test_edges(self):
        known = [
            (Web(1), 0), (BARE, 0), (FULL, 19), (LOTS, 10), (TRIANGLES, 2), (LONG, 1), (ODD_RING, 2), (EVEN_RING, 2),
            (Web(10) + Web(2), 2), (Web(2) + Web(10), 2), (Web.full(6) | Web(10), 5), (Web.full(10) + Web(10), 10),
            (FULL.untied(0, 19), 18), (Web.path(2), 1), (round_web(20, (1, 2, 10)), 5),
        ]
        for web, wanted in known:
            self.assert_same(thickness(web), wanted)
        self.assertLess(thickness(STAR), STAR.most)

    def test_at_most_the_greatest_degree(self):
        for web in [*SMALL, *TIGHT, *some_webs(154, 60, 6, 20)]:
            self.assertLessEqual(thickness(web), web.most)

    def test_a_colouring_with_one_hue_more(self):
        for web in [*SMALL, *TIGHT, *some_webs(155, 60, 6, 20)]:
            row = greedy(web, thin_order(web, thickness(web)))
            self.assertIs(is_colouring(web, thickness(web) + 1, row), True)

    def test_errors(self):
        self.assert_order(thickness, (RING, wrong_webs(), InvalidWeb))


class OrderAndCoreTest(Case):
    def assert_one_of_both(self, web, number):
        order, core = thin_order(web, number), thick_core(web, number)
        known = (web.ties, number)
        self.assertIs(order is None, core is not None, known)
        if order is None:
            self.assertIs(type(core), tuple)
            self.assertEqual(list(core), sorted(set(core)))
            self.assertTrue(plain_is_thick_core(web, number, core), known)
            self.assertIs(is_thick_core(web, number, core), True, known)
        else:
            self.assertIs(type(order), tuple)
            self.assertEqual(sorted(order), list(range(web.size)))
            self.assertTrue(plain_is_thin_order(web, number, order), known)
            self.assertIs(is_thin_order(web, number, order), True, known)
        self.assertIs(order is not None, number >= thickness(web), known)

    def test_just_one_is_true(self):
        for web in [*SMALL, *TIGHT, *some_webs(156, 80, 6, 20), BARE, FULL, LOTS, TRIANGLES, LONG, Web(1)]:
            for number in range(21):
                self.assert_one_of_both(web, number)

    def test_all_orders_of_small_webs(self):
        for web in [*all_webs(3), *all_webs(4)[::7], RING]:
            for number in range(4):
                for order in itertools.permutations(range(web.size)):
                    self.assertIs(is_thin_order(web, number, order), plain_is_thin_order(web, number, order))

    def test_all_sets_of_small_webs(self):
        for web in [*all_webs(4), *all_webs(5)[-1024::51], SIDES, PAIRS, STAR]:
            for number in range(5):
                for places in ascending_tuples(web.size):
                    self.assertIs(is_thick_core(web, number, places), plain_is_thick_core(web, number, places))

    def test_orders_changed_in_one_thing(self):
        order = (0, 1, 2, 3, 4, 5)
        self.assertIs(is_thin_order(STAR, 1, order), True)
        changed = [
            (1, 2, 0, 3, 4, 5), (1, 2, 3, 4, 5, 0), (0, 1, 2, 3, 4), (0, 1, 2, 3, 4, 5, 5), (0, 1, 2, 3, 4, 6), [*order],
            (False, 1, 2, 3, 4, 5), (0, True, 2, 3, 4, 5), (0, 1, 2, 3, 4, None), (0, 1, 2, 3, 4, -1), (0, 1, 2, 3, 5, 5),
            (0, 1, 2, 3, 4, HUGE), "012345", (0, 1, 2, 3, 4, "5"),
        ]
        for value in [*changed, *any_values()]:
            with self.subTest(value=value):
                self.assertIs(is_thin_order(STAR, 1, value), False)
        self.assertIs(is_thin_order(STAR, 0, order), False)
        self.assertIs(is_thin_order(STAR, 5, order[::-1]), True)
        self.assertIs(is_thin_order(STAR, 4, order[::-1]), False)
        self.assertIs(is_thin_order(BARE, 0, tuple(range(20))[::-1]), True)
        self.assertIs(is_thin_order(FULL, 19, tuple(range(20))), True)
        self.assertIs(is_thin_order(FULL, 18, tuple(range(20))), False)
        self.assertIs(is_thin_order(LONG, 1, tuple(range(20))), True)
        self.assertIs(is_thin_order(LONG, 1, (*range(0, 20, 2), *range(1, 20, 2))), False)
        self.assertIs(is_thin_order(LONG, 2, (*range(0, 20, 2), *range(1, 20, 2))), True)

    def test_cores_changed_in_one_thing(self):
        self.assertIs(is_thick_core(PAIRS, 1, (3, 4, 5)), True)
        self.assertIs(is_thick_core(PAIRS, 1, (0, 1, 2, 3, 4, 5)), True)
        changed = [
            (3, 4), (2, 3, 4, 5), (3, 5, 4), (3, 4, 5, 5), [3, 4, 5], (3, 4, 6), (3, 4, -1), (3, 4, None), (0, True, 2), (False, 1, 2),
            (), (3, 4, HUGE), "345", {3: 4}, (3, 4, 5, 6),
        ]
        for value in [*changed, *but(any_values(), (0, 1, 2))]:
            with self.subTest(value=value):
                self.assertIs(is_thick_core(PAIRS, 1, value), False)
        self.assertIs(is_thick_core(PAIRS, 2, (3, 4, 5)), False)
        self.assertIs(is_thick_core(PAIRS, 0, (3, 4)), True)
        self.assertIs(is_thick_core(BARE, 0, ()), False)
        self.assertIs(is_thick_core(FULL, 18, tuple(range(20))), True)
        self.assertIs(is_thick_core(FULL, 18, tuple(range(19))), False)
        self.assertIs(is_thick_core(LOTS, 9, tuple(range(20))), True)
        self.assertIs(is_thick_core(LOTS, 9, tuple(range(19))), False)
        self.assertIs(is_thick_core(EVEN_RING, 1, tuple(range(20))), True)

    def test_errors(self):
        for call in (thin_order, thick_core):
            self.assert_order(call, (STAR, wrong_webs(), InvalidWeb), (1, wrong_numbers(0, 20), InvalidNumber))
        for call in (is_thin_order, is_thick_core):
            self.assert_order(call, (STAR, wrong_webs(), InvalidWeb), (1, wrong_numbers(0, 20), InvalidNumber), judged((0, 1)))


class PromisedFromTest(Case):
    def test_tie_sums(self):
        for web in [*SMALL, *TIGHT, *some_webs(157, 60, 6, 20)]:
            degrees = [sum(place in tie for tie in web.ties) for place in range(web.size)]
            wanted = max([degrees[one] + degrees[other] for one, other in web.ties], default=0)
            self.assert_same(tie_sum(web), wanted)
            least = promised_from(web)
            self.assertTrue(least >= 1 and 2 * least > wanted and (least == 1 or 2 * (least - 1) <= wanted))
            self.assertIs(type(least), int)
            self.assertLessEqual(least, web.most + 1)

    def test_edges(self):
        known = [
            (Web(1), 0, 1), (BARE, 0, 1), (Web.path(2), 2, 2), (FULL, 38, 20), (LOTS, 20, 11), (TRIANGLES, 4, 3),
            (Web(1) + Web(9), 10, 6), (Web(1) + Web(8), 9, 5), (Web.path(3), 3, 2), (LONG, 4, 3),
        ]
        for web, ties, least in known:
            self.assert_same([tie_sum(web), promised_from(web)], [ties, least])

    def test_level_colourings_from_there_on(self):
        for web in [*SMALL, *some_webs(158, 40, 6, 10), *some_webs(159, 10, 11, 12)]:
            for hues in range(promised_from(web), 13):
                self.assertIs(has_level(web, hues), True, (web.ties, hues))
        for web in (FULL, LOTS, TRIANGLES, BARE, LONG, *TIGHT):
            for hues in range(max(promised_from(web), web.most + 1), 21):
                row = level_colouring(web, hues)
                self.assertTrue(is_proper(web, row) and is_level(row, hues))

    def test_errors(self):
        for call in (tie_sum, promised_from):
            self.assert_order(call, (RING, wrong_webs(), InvalidWeb))


class OddShapeTest(Case):
    def assert_shape(self, web, wanted):
        """Check what there is of odd shapes, against all that there are."""
        found = odd_shape(web)
        self.assertIs(found is not None, bool(wanted), web.ties)
        self.assertIs(has_level_at_most(web), not wanted)
        if wanted:
            self.assertIs(type(found), tuple)
            self.assertIn(found, wanted)
        for value in wanted:
            self.assertIs(is_odd_shape(web, value), True, (web.ties, value))

    def test_small_webs(self):
        for web in shaped_webs():
            self.assert_shape(web, plain_odd_shapes(web))

    def test_has_level_as_a_search_finds(self):
        for web in shaped_webs():
            self.assertIs(has_level_at_most(web), has_level(web, web.most), web.ties)
        chance = random.Random(160)
        webs = [bounded_web(chance, chance.randint(9, 12), chance.randint(3, 4)) for _ in range(80)]
        for web in [web for web in webs if is_shaped(web)]:
            self.assertIs(has_level_at_most(web), has_level(web, web.most), web.ties)

    def test_all_odd_shapes(self):
        chance = random.Random(161)
        for size in range(2, 6):
            for web in (Web.full(size), in_other_places(chance, Web.full(size))):
                self.assert_shape(web, plain_odd_shapes(web))
                self.assertIs(is_odd_shape(web, ("full", tuple(range(size)))), True)
        for size in (3, 5, 7):
            web = in_other_places(chance, ring(size))
            self.assert_shape(web, plain_odd_shapes(web))
        for size in (1, 3):
            web = in_other_places(chance, Web(size) + Web(size))
            self.assert_shape(web, plain_odd_shapes(web))
        for web in (Web(2) + Web(2), Web(4) + Web(4), ring(4), ring(8), ring(10), EVEN_RING, LONG, Web.path(3), Web.path(10)):
            self.assert_shape(web, [])
        for web in (ring(9), ODD_RING, in_other_places(chance, ODD_RING)):
            self.assertEqual(odd_shape(web)[0], "ring")
            self.assertEqual(len(odd_shape(web)[1]), web.size)
            self.assertIs(is_odd_shape(web, odd_shape(web)), True)
            self.assertIs(has_level_at_most(web), False)
        self.assertIs(is_odd_shape(ODD_RING, ("ring", (*range(7, 19), *range(7)))), True)
        self.assertIs(is_odd_shape(ODD_RING, ("ring", tuple(range(19))[::-1])), True)

    def test_webs_that_are_nearly_so(self):
        for web in (
            Web.full(5).untied(0, 1), Web.full(4).untied(1, 3), SIDES.untied(0, 3), SIDES.tied(0, 1), ring(5).tied(0, 2),
            Web(3) + Web(4), Web(1) + Web(3), ring(7).untied(0, 6), Web(1) + Web(4), round_web(20, (1, 10)), round_web(20, (1, 2)),
            round_web(19, (1, 4)), side_by_side(RING, RING, RING, RING).tied(0, 5).tied(6, 10).tied(11, 15),
            # An odd ring with more ties at one place: the ring has not all places.
            (RING | Web(1)).tied(0, 5), (Web.full(3) | Web.path(10)).tied(0, 3),
        ):
            self.assertIsNone(odd_shape(web), web.ties)
            self.assertIs(has_level_at_most(web), True)
            if web.size <= 12:
                self.assertIs(has_level(web, web.most), True)

    def test_ones_changed_in_one_thing(self):
        every = (0, 1, 2, 3, 4)
        lots = ("lots", (0, 1, 2), (3, 4, 5))
        self.assertIs(is_odd_shape(SIDES, lots), True)
        self.assertIs(is_odd_shape(SIDES, ("lots", (3, 4, 5), (0, 1, 2))), True)
        wrong_lots = [
            ("lots", (0, 1), (3, 4, 5)), ("lots", (0, 1, 3), (2, 4, 5)), ("lots", (0, 2, 1), (3, 4, 5)), ("lots", [0, 1, 2], (3, 4, 5)),
            ("lots", (0, 1, 2), (3, 4)), ("lots", (0, 1, 2), (0, 1, 2)), ("lots", (False, 1, 2), (3, 4, 5)), ["lots", (0, 1, 2), (3, 4, 5)],
            ("lots", (0, 1, 2), (3, 4, 6)), ("lots", (0, 1, 2), None), ("lots", ((0, 1, 2), (3, 4, 5))), ("full", (0, 1, 2), (3, 4, 5)),
            ("lots", (0, 1, 2), (3, 4, 5), ()), ("Lots", (0, 1, 2), (3, 4, 5)), ("lots",), ("full", (0, 1, 2, 3, 4, 5)), ("lots", (), ()),
            ("ring", (0, 3, 1, 4, 2)), ("ring", (0, 3, 1, 4, 2, 5)), (0, 1, 2), ("lots", (0, 1, 2, 3), (4, 5)), ("lots", (0, True, 2), (3, 4, 5)),
        ]
        for value in [*wrong_lots, *any_values()]:
            with self.subTest(value=value):
                self.assertIs(is_odd_shape(SIDES, value), False)
        self.assertIs(is_odd_shape(Web(2) + Web(2), ("lots", (0, 1), (2, 3))), False)
        self.assertIs(is_odd_shape(Web(1) + Web(3), ("lots", (0,), (1, 2, 3))), False)
        self.assertIs(is_odd_shape(SIDES.untied(0, 3), lots), False)
        self.assertIs(is_odd_shape(RING, ("ring", every)), True)
        wrong_rings = [
            ("ring", every[:4]), ("ring", every[:3]), ("ring", (0, 2, 1, 3, 4)), ("ring", list(every)), ("ring", (False, 1, 2, 3, 4)), ("full", every),
            ("Ring", every), ("lots", every), ("", every), (None, every), (0, every), ("ring", every, (), ()), ("ring", every, every, every),
            ("ring", (*every, 0)), ("ring", every, ()), ("ring",), ["ring", every], ("ring", (*every, *every, *every)), ("ring", None),
        ]
        for value in [*wrong_rings, *any_values()]:
            with self.subTest(value=value):
                self.assertIs(is_odd_shape(RING, value), False)
        whole = Web.full(5)
        self.assertIs(is_odd_shape(whole, ("full", every)), True)
        wrong_full = [
            ("full", every[:4]), ("full", every[::-1]), ("full", (*every, 5)), ("full", list(every)), ("full", every, every), ["full", every],
            ("full", every, (), ()), ("full", every, every, every), ("Full", every), ("lots", every), (None, every),
            ("full", (0, True, 2, 3, 4)), ("full", (False, *every[1:])), ("ring", every), ("full", ()), ("full",), "full", ("full", None),
        ]
        for value in [*wrong_full, *any_values()]:
            with self.subTest(value=value):
                self.assertIs(is_odd_shape(whole, value), False)
        self.assertIs(is_odd_shape(whole.untied(0, 4), ("full", every)), False)
        # Three places that are each tied to three others, of which there are four: as many ties as between three and three.
        nearly = Web(7, ((0, 3), (0, 4), (0, 5), (1, 3), (1, 4), (1, 6), (2, 4), (2, 5), (2, 6)))
        self.assertEqual([nearly.most, len(nearly.ties), odd_shape(nearly)], [3, 9, None])
        self.assertIs(has_level_at_most(nearly), has_level(nearly, 3))
        self.assertIs(is_odd_shape(nearly, ("lots", (0, 1, 2), (3, 4, 5, 6))), False)
        self.assertIs(is_odd_shape(nearly, ("lots", (3, 4, 5, 6), (0, 1, 2))), False)
        # A ring with a further tie, or with a place that hangs on it, is no odd shape.
        self.assertIs(is_odd_shape(RING.tied(0, 2), ("ring", every)), False)
        self.assertIs(is_odd_shape((RING | Web(1)).tied(0, 5), ("ring", every)), False)

    def test_errors(self):
        barred = [
            Web(1), Web(2), BARE, FULL, LOTS, TRIANGLES, PAIRS, STAR, Web.full(6), RING | Web(1), side_by_side(RING, RING), Web.full(5) | Web.full(5),
            side_by_side(*[Web.path(10)] * 2), Web(1) + Web(5), (Web.full(5) | Web(1)).tied(0, 5), Web(5) + Web(5),
        ]
        for call in (odd_shape, has_level_at_most):
            self.assert_order(call, (RING, wrong_webs(), InvalidWeb))
            for web in barred:
                self.assert_raises(InvalidOperation, call, web)
        self.assert_order(is_odd_shape, (RING, wrong_webs(), InvalidWeb), judged(("ring", (0, 1, 2, 3, 4))))
        for web in barred:
            for value in (("full", (0,)), None):
                self.assert_raises(InvalidOperation, is_odd_shape, web, value)


if __name__ == "__main__":
    unittest.main()
