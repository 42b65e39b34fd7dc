"""Tests of ways from colouring to colouring, held against plain looks at all steps."""

import itertools
import random
import unittest

from levelhues.base.webs import Web
from levelhues.errors import InvalidNumber, InvalidOperation, InvalidRow, InvalidWeb, TooMany
from levelhues.hue import ways as module
from levelhues.hue.judged import piece_exchanged
from levelhues.hue.ways import classes_of, closed_class, is_closed_class, is_frozen, is_way, walked, way
from levelhues.level.promised import thickness
from plain import (
    BARE,
    FULL,
    LOTS,
    TRIANGLES,
    all_colourings,
    all_rows,
    ascending_tuples,
    bounded_web,
    is_movable,
    is_proper,
    round_web,
    side_by_side,
    some_webs,
)
from samples import HUGE, PAIRS, RING, SIDES, STAR, Case, all_webs, any_values, but, judged, wrong_numbers, wrong_webs

EVERY = tuple(range(20))
EDGE = Web.path(2)
BOTH = (False, True)
ELEVEN = Web.path(10) | Web(1)
SMALL = [*all_webs(3), *all_webs(4)[11::4], RING, Web.path(5)]


def plain_step(web, row, step, pieces):
    """The row behind a step, or None if there is no such step, by the words of the document."""
    place, hue = step
    if row[place] == hue or not pieces and not is_movable(web, row, place, hue):
        return None
    reached = {place}
    while pieces:
        more = {other for at in reached for other in web[at] if row[other] in (row[place], hue)} | reached
        if more == reached:
            break
        reached = more
    swap = {row[place]: hue, hue: row[place]}
    return tuple(swap[worn] if at in reached else worn for at, worn in enumerate(row))


def plain_walk(web, hues, row, steps, pieces):
    for place, hue in steps:
        if row is None or not (0 <= place < web.size and 0 <= hue < hues):
            return None
        row = plain_step(web, row, (place, hue), pieces)
    return row


def plain_next(web, hues, row, pieces):
    told = [plain_step(web, row, step, pieces) for step in itertools.product(range(web.size), range(hues))]
    return {goal for goal in told if goal is not None}


def plain_classes(web, hues, pieces):
    """All colourings, parted by whether ways lead from the one to the other."""
    left, found = set(all_colourings(web, hues)), []
    while left:
        reached, ahead = set(), {min(left)}
        while ahead:
            reached |= ahead
            ahead = {goal for row in ahead for goal in plain_next(web, hues, row, pieces)} - reached
        found.append(tuple(sorted(reached)))
        left -= reached
    return tuple(found)


def some_colouring(chance, web, hues):
    """Any colouring, found by chance, or None."""
    row = {}
    for place in chance.sample(range(web.size), web.size):
        near = [row[other] for other in web[place] if other in row]
        left = [hue for hue in range(hues) if hue not in near]
        if not left:
            return None
        row[place] = chance.choice(left)
    return tuple(row[place] for place in range(web.size))


def many_rows(web, hues):
    return hues ** web.size


def told_cases():
    """Webs, numbers of hues and kinds of steps with few enough rows for a search."""
    for web in SMALL:
        for hues in range(1, 5):
            if many_rows(web, hues) <= 1100:
                for pieces in BOTH:
                    yield web, hues, pieces


def wrong_colourings():
    """Values that are no colourings of a path of three places with three hues."""
    return [
        *but(any_values(), (0, 1, 2)), (0, 0, 1), (0, 1, 1), (0, 1), (0, 1, 0, 1), (0, 1, 3), (0, 1, -1), [0, 1, 0], (False, 1, 0),
        (0, True, 0), (0, 1, None), (0, 1, HUGE), (0, 1, "0"),
    ]


def with_pieces(call):
    """A call whose last argument is passed by its keyword."""
    return lambda *told: call(*told[:-1], pieces=told[-1])


NO_BOOLEANS = (False, but(any_values(), True, False), InvalidOperation)


class WalkedTest(Case):
    def test_all_short_ways(self):
        for web in [*all_webs(3), RING]:
            for hues in (1, 2, 3):
                steps = list(itertools.product(range(web.size), range(hues)))
                for row in all_colourings(web, hues)[::5]:
                    for pieces in BOTH:
                        for told in [(), *[(step,) for step in steps], *list(itertools.product(steps, repeat=2))[::7]]:
                            goal = plain_walk(web, hues, row, told, pieces)
                            if goal is None:
                                self.assert_raises(InvalidOperation, with_pieces(walked), web, hues, row, told, pieces)
                            else:
                                self.assert_same(walked(web, hues, row, told, pieces=pieces), goal)
                            for other in {row, goal} - {None}:
                                judge = is_way(web, hues, row, other, told, pieces=pieces)
                                self.assertIs(judge, goal == other)

    def test_long_ways_step_by_step(self):
        chance = random.Random(171)
        for web in [*some_webs(172, 20, 6, 20), BARE, LOTS, TRIANGLES]:
            hues = min(20, thickness(web) + 2)
            for pieces in BOTH:
                start = row = some_colouring(chance, web, 20) if hues == 20 else some_colouring(chance, web, hues)
                if row is None:
                    continue
                steps = []
                for _ in range(200):
                    step = (chance.randrange(web.size), chance.randrange(hues))
                    goal = plain_step(web, row, step, pieces)
                    if goal is not None:
                        steps.append(step)
                        row = goal
                self.assertTrue(is_proper(web, row))
                self.assert_same(walked(web, hues, start, tuple(steps), pieces=pieces), row)
                self.assertIs(is_way(web, hues, start, row, tuple(steps), pieces=pieces), True)

    def test_pieces_as_they_are_exchanged(self):
        chance = random.Random(173)
        for web in some_webs(174, 30, 5, 20):
            row = some_colouring(chance, web, 20)
            for _ in range(10):
                place, hue = chance.randrange(web.size), chance.randrange(20)
                if row[place] != hue:
                    goal = piece_exchanged(web, 20, row, place, hue)
                    self.assert_same(walked(web, 20, row, ((place, hue),), pieces=True), goal)
                    self.assert_same(walked(web, 20, goal, ((place, row[place]),), pieces=True), row)

    def test_moves_are_meant_if_nothing_is_told(self):
        self.assert_same(walked(RING, 3, (0, 1, 0, 1, 2), ((4, 1),), pieces=True), (0, 1, 0, 2, 1))
        self.assert_raises(InvalidOperation, walked, RING, 3, (0, 1, 0, 1, 2), ((4, 1),))
        self.assert_same(walked(RING, 3, (0, 1, 0, 1, 2), ((2, 0), (1, 2))[1:]), (0, 2, 0, 1, 2))
        self.assert_same(walked(FULL, 20, EVERY, ()), EVERY)
        self.assert_same(walked(FULL, 20, EVERY, ((0, 19),), pieces=True), (19, *range(1, 19), 0))
        self.assert_same(walked(BARE, 2, (0,) * 20, tuple((at, 1) for at in EVERY)), (1,) * 20)

    def test_errors(self):
        path = Web.path(3)
        wrong_steps = [
            *but(any_values(), ()), ((0, 0),), ((0, 1),), ((0, 3),), ((3, 0),), ((-1, 2),), ((0, -1),), ((0, 2), (0, 2)), [(0, 2)], ([0, 2],), ((0, 2, 0),),
            ((False, 2),), ((0, True),), ((0, None),), ((0, "2"),), (0, 2), ((0, HUGE),), ((HUGE, 0),), ((0, 2), None), ((0,),), ((0, 2), (0, 1)),
        ]
        self.assert_order(
            with_pieces(walked), (path, wrong_webs(), InvalidWeb), (3, wrong_numbers(1, 20), InvalidNumber),
            ((0, 1, 0), wrong_colourings(), InvalidRow), (((0, 2),), wrong_steps, InvalidOperation), NO_BOOLEANS,
        )


class WayTest(Case):
    def assert_way(self, web, hues, row, other, pieces):
        steps = way(web, hues, row, other, pieces=pieces)
        known = (web.ties, hues, row, other, pieces, steps)
        self.assertIs(type(steps), tuple)
        self.assertTrue(all(type(step) is tuple and type(step[0]) is int and type(step[1]) is int for step in steps))
        self.assertEqual(plain_walk(web, hues, row, steps, pieces), other, known)
        self.assertLessEqual(len(steps), 20000)
        self.assertIs(is_way(web, hues, row, other, steps, pieces=pieces), True, known)
        self.assertIsNone(closed_class(web, hues, row, other, pieces=pieces))
        return steps

    def assert_class(self, web, hues, row, other, pieces):
        value = closed_class(web, hues, row, other, pieces=pieces)
        self.assertIs(type(value), tuple)
        self.assertEqual(list(value), sorted(set(value)))
        self.assertIn(row, value)
        self.assertNotIn(other, value)
        for known in value:
            self.assertTrue(is_proper(web, known))
            self.assertLessEqual(plain_next(web, hues, known, pieces), set(value))
        self.assertIs(is_closed_class(web, hues, value, pieces=pieces), True)
        self.assertIsNone(way(web, hues, row, other, pieces=pieces))

    def test_just_one_is_true(self):
        chance = random.Random(175)
        for web, hues, pieces in told_cases():
            classes = plain_classes(web, hues, pieces)
            rows = [row for known in classes for row in known]
            for _ in range(min(12, len(rows) ** 2)):
                row, other = chance.choice(rows), chance.choice(rows)
                if any(row in known and other in known for known in classes):
                    self.assert_way(web, hues, row, other, pieces)
                    self.assert_way(web, hues, other, row, pieces)
                else:
                    self.assert_class(web, hues, row, other, pieces)

    def test_hues_enough_for_ten_places(self):
        chance = random.Random(176)
        webs = [*some_webs(177, 60, 8, 10), Web.full(10), Web.full(10).untied(0, 1), Web(10), Web(5) + Web(5), Web.path(10)]
        webs += [Web.full(5) | Web.full(5), round_web(10, (1, 2)), Web(1) + Web(9), *[bounded_web(chance, 10, most) for most in range(1, 6)]]
        for web in webs:
            for pieces in BOTH:
                least = thickness(web) + (1 if pieces else 2)
                for hues in {least, least + 1, 20}:
                    row, other = some_colouring(chance, web, hues), some_colouring(chance, web, hues)
                    if row and other:
                        self.assert_way(web, hues, row, other, pieces)
                        self.assert_same(way(web, hues, row, row, pieces=pieces), ())

    def test_full_webs_by_pieces_and_with_a_hue_to_spare(self):
        chance = random.Random(178)
        for size in range(1, 11):
            web = Web.full(size)
            for hues, pieces in ((size, True), (size + 1, False), (size + 1, True), (20, False)):
                for _ in range(4):
                    row, other = tuple(chance.sample(range(hues), size)), tuple(chance.sample(range(hues), size))
                    self.assert_way(web, hues, row, other, pieces)

    def test_colourings_of_rings_and_of_places_by_themselves(self):
        self.assert_class(RING, 3, (0, 1, 0, 1, 2), (1, 0, 1, 0, 2), False)
        self.assert_way(RING, 3, (0, 1, 0, 1, 2), (1, 0, 1, 0, 2), True)
        self.assert_class(SIDES, 2, (0, 0, 0, 1, 1, 1), (1, 1, 1, 0, 0, 0), False)
        self.assert_way(SIDES, 2, (0, 0, 0, 1, 1, 1), (1, 1, 1, 0, 0, 0), True)
        self.assert_way(Web(10), 1, (0,) * 10, (0,) * 10, False)
        self.assert_way(Web(10), 2, (0,) * 10, (1,) * 10, False)
        self.assert_class(Web.path(10), 2, (0, 1) * 5, (1, 0) * 5, False)
        self.assert_way(Web.path(10), 2, (0, 1) * 5, (1, 0) * 5, True)
        self.assert_same(way(Web.path(10), 2, (0, 1) * 5, (0, 1) * 5), ())
        # As many rows as a search takes: 1,024, and 1,728, and 1,296.
        self.assert_class(EDGE | Web(8), 2, (0, 1) + (0,) * 8, (1, 0) + (0,) * 8, False)
        self.assert_way(Web.full(3), 12, (0, 1, 2), (2, 0, 1), False)
        self.assert_class(Web.full(3) | Web(3), 3, (0, 1, 2, 0, 0, 0), (1, 2, 0, 0, 0, 0), False)
        self.assert_class(Web.full(4), 4, (0, 1, 2, 3), (1, 2, 3, 0), False)

    def test_webs_with_too_many_rows(self):
        self.assertEqual(module.MAX_ROWS, 2000)
        row, other = (0, 1) * 5 + (0,), (1, 0) * 5 + (0,)
        for call in (way, closed_class):
            for hues in (1, 2, 3, 20):
                bare = Web(10) | Web(1)
                self.assert_keeps(TooMany, 10, call, bare, hues, (0,) * 11, (0,) * 11)
            self.assert_keeps(TooMany, 10, call, ELEVEN, 2, row, other)
            self.assert_keeps(TooMany, 10, with_pieces(call), ELEVEN, 20, row, other, True)
            self.assert_keeps(TooMany, 10, call, FULL, 20, EVERY, EVERY)
            # Seven places with three hues are 2,187 rows, six are 729, and ten with two are 1,024.
            seven, steps = Web.full(3) | Web(4), ((0, 1, 2) + (0,) * 4, (0, 1, 2) + (1,) * 4)
            self.assert_keeps(TooMany, 2000, call, seven, 3, *steps)
            call(seven, 4, *steps)
            with_pieces(call)(seven, 3, *steps, True)
            call(Web.full(3) | Web(3), 3, steps[0][:6], steps[1][:6])
            call(Web.path(10), 2, row[:10], other[:10])
            self.assert_keeps(TooMany, 2000, with_pieces(call), Web.full(5), 5, EVERY[:5], EVERY[4::-1], False)
            with_pieces(call)(Web.full(5), 5, EVERY[:5], EVERY[4::-1], True)
            self.assert_keeps(TooMany, 2000, call, Web.full(10), 10, EVERY[:10], EVERY[9::-1])
            call(Web.full(10), 11, EVERY[:10], EVERY[9::-1])

    def test_errors(self):
        path = Web.path(3)
        for call in (way, closed_class):
            self.assert_order(
                with_pieces(call), (path, wrong_webs(), InvalidWeb), (3, wrong_numbers(1, 20), InvalidNumber),
                ((0, 1, 0), wrong_colourings(), InvalidRow), ((1, 0, 2), wrong_colourings(), InvalidRow), NO_BOOLEANS,
            )
            self.assert_raises(InvalidOperation, with_pieces(call), ELEVEN, 2, (0, 1) * 5 + (0,), (0, 1) * 5 + (0,), 1)
            self.assert_raises(InvalidRow, with_pieces(call), ELEVEN, 2, (0, 1) * 5 + (0,), (0, 1) * 5, 1)


class IsWayTest(Case):
    def test_ones_changed_in_one_thing(self):
        row, other, steps = (0, 1), (1, 0), ((0, 2), (1, 0), (0, 1))
        self.assertIs(is_way(EDGE, 3, row, other, steps), True)
        self.assertIs(is_way(EDGE, 3, row, other, ((1, 2), (0, 1), (1, 0))), True)
        changed = [
            steps[:2], steps[1:], steps[::-1], (*steps, (0, 2)), (*steps, (0, 1)), ((0, 2), (1, 0), (0, 0)), ((0, 2), (1, 1), (0, 1)), list(steps),
            ((0, 2), [1, 0], (0, 1)), ((0, 2), (True, 0), (0, 1)), ((0, 2), (1, False), (0, 1)), ((0, 3), (1, 0), (0, 1)), ((0, -1), (1, 0), (0, 1)),
            ((0, 2), (2, 0), (1, 0), (0, 1)), ((-2, 2), (1, 0), (0, 1)), ((0, 2, 0), (1, 0), (0, 1)), (None, *steps), (*steps, None), (0, 2, 1, 0, 0, 1),
            ((0, 2), (1, HUGE), (0, 1)), (("0", 2), (1, 0), (0, 1)), (), ((0, 1),), "021001",
        ]
        for value in [*changed, *any_values()]:
            with self.subTest(value=value):
                self.assertIs(is_way(EDGE, 3, row, other, value), False)
        self.assertIs(is_way(EDGE, 2, row, other, ((1, 0),), pieces=True), True)
        self.assertIs(is_way(EDGE, 2, row, other, ((1, 0),), pieces=False), False)
        self.assertIs(is_way(EDGE, 2, row, other, ((1, 0), (1, 0)), pieces=True), False)
        self.assertIs(is_way(EDGE, 2, row, other, ((1, 0), (0, 0), (1, 0)), pieces=True), True)
        self.assertIs(is_way(EDGE, 2, row, other, ((1, 1),), pieces=True), False)
        for value in but(any_values(), ()):
            self.assertIs(is_way(EDGE, 2, row, row, value, pieces=True), False)
        self.assertIs(is_way(EDGE, 2, row, row, ()), True)

    def test_long_ones_and_large_ones(self):
        there = tuple((at, 1) for at in EVERY)
        self.assertIs(is_way(BARE, 2, (0,) * 20, (1,) * 20, there), True)
        self.assertIs(is_way(BARE, 2, (0,) * 20, (1,) * 20, there[1:]), False)
        self.assertIs(is_way(BARE, 2, (0,) * 20, (1,) * 20, there[::-1], pieces=True), True)
        back = tuple((at, 0) for at in EVERY)
        self.assertIs(is_way(BARE, 2, (0,) * 20, (0,) * 20, (there + back) * 600), True)
        self.assertIs(is_way(BARE, 2, (0,) * 20, (0,) * 20, (there + back) * 600 + there[:1]), False)
        self.assertIs(is_way(LOTS, 2, (0,) * 10 + (1,) * 10, (1,) * 10 + (0,) * 10, ((19, 0),), pieces=True), True)
        self.assertIs(is_way(FULL, 20, EVERY, (1, 0, *EVERY[2:]), ((0, 1),), pieces=True), True)
        self.assertIs(is_way(FULL, 20, EVERY, (1, 0, *EVERY[2:]), ((0, 1),)), False)

    def test_errors(self):
        self.assert_order(
            with_pieces(is_way), (Web.path(3), wrong_webs(), InvalidWeb), (3, wrong_numbers(1, 20), InvalidNumber),
            ((0, 1, 0), wrong_colourings(), InvalidRow), ((1, 0, 2), wrong_colourings(), InvalidRow), judged(()), NO_BOOLEANS,
        )


class ClosedClassTest(Case):
    def test_all_sets_of_few_colourings(self):
        for web, hues in ((EDGE, 2), (EDGE, 3), (Web(2), 2), (Web.full(3), 3), (Web.path(3), 2), (Web(1), 3), (RING, 2), (Web(3), 2)):
            rows = sorted(all_colourings(web, hues))
            for chosen in ascending_tuples(len(rows))[:300]:
                value = tuple(rows[at] for at in chosen)
                for pieces in BOTH:
                    wanted = all(plain_next(web, hues, row, pieces) <= set(value) for row in value)
                    self.assertIs(is_closed_class(web, hues, value, pieces=pieces), wanted)

    def test_classes_of_small_webs(self):
        for web, hues, pieces in told_cases():
            classes = plain_classes(web, hues, pieces)
            self.assert_same(classes_of(web, hues, pieces=pieces), classes)
            every = tuple(sorted(row for known in classes for row in known))
            for value in [*classes[:3], every, (), tuple(sorted([row for known in classes[1:] for row in known]))]:
                self.assertIs(is_closed_class(web, hues, value, pieces=pieces), True)
                if value:
                    for changed in (value[1:], value[:-1]):
                        wanted = all(plain_next(web, hues, row, pieces) <= set(changed) for row in changed)
                        self.assertIs(is_closed_class(web, hues, changed, pieces=pieces), wanted)
                    self.assertIs(is_closed_class(web, hues, (*value, value[-1]), pieces=pieces), False)
                    self.assertIs(is_closed_class(web, hues, list(value), pieces=pieces), False)
                if len(value) > 1:
                    self.assertIs(is_closed_class(web, hues, value[::-1], pieces=pieces), False)

    def test_moves_are_meant_if_nothing_is_told(self):
        self.assert_same([len(classes_of(RING, 3)), len(classes_of(RING, 3, pieces=True))], [2, 1])
        self.assert_same([is_closed_class(EDGE, 2, ((0, 1),)), is_closed_class(EDGE, 2, ((0, 1),), pieces=True)], [True, False])
        self.assert_same([len(closed_class(EDGE, 2, (0, 1), (1, 0))), closed_class(EDGE, 2, (0, 1), (1, 0), pieces=True)], [1, None])
        self.assert_same([way(EDGE, 2, (0, 1), (1, 0)), len(way(EDGE, 2, (0, 1), (1, 0), pieces=True))], [None, 1])

    def test_ones_changed_in_one_thing(self):
        right = ((0, 1), (1, 0))
        self.assertIs(is_closed_class(EDGE, 2, right), True)
        changed = [
            ((1, 0), (0, 1)), ((0, 0), (0, 1), (1, 0)), ((0, 1), (0, 1), (1, 0)), [*right], ([0, 1], (1, 0)), ((0, 1), (1, False)), ((0, 1), (1, 2)),
            ((0, 1), (1, 0), (1, 1)), ((0,), (1, 0)), ((0, 1), (1, 0, 0)), ((0, 1), None), (None,), ((),), ((0, -1),), ((0, 1), (1, HUGE)), ((0, True), (1, 0)),
        ]
        for value in [*changed, *but(any_values(), (), ((0, 1), (1, 0)), ((0, 1),))]:
            with self.subTest(value=value):
                self.assertIs(is_closed_class(EDGE, 2, value), False)
                self.assertIs(is_closed_class(EDGE, 2, value, pieces=True), False)
        self.assertIs(is_closed_class(EDGE, 1, ()), True)
        self.assertIs(is_closed_class(EDGE, 3, right), False)

    def test_up_to_twenty_places(self):
        lots = (0,) * 10 + (1,) * 10
        turned = (1,) * 10 + (0,) * 10
        self.assertIs(is_closed_class(LOTS, 2, (lots,)), True)
        self.assertIs(is_closed_class(LOTS, 2, (lots,), pieces=True), False)
        self.assertIs(is_closed_class(LOTS, 2, (lots, turned), pieces=True), True)
        self.assertIs(is_closed_class(LOTS, 3, (lots,)), False)
        self.assertIs(is_closed_class(FULL, 20, (EVERY,)), True)
        self.assertIs(is_closed_class(FULL, 20, (EVERY,), pieces=True), False)
        # All colourings of pairs and of a place by itself: 2 to the power of 11.
        pairs = side_by_side(*[Web.path(2)] * 9, Web(2))
        rows = tuple(sorted(
            tuple(hue for at in told[:9] for hue in (at, 1 - at)) + told[9:] for told in itertools.product((0, 1), repeat=11)
        ))
        self.assertIs(is_closed_class(pairs, 2, rows, pieces=True), True)
        self.assertIs(is_closed_class(pairs, 2, rows), True)
        self.assertIs(is_closed_class(pairs, 2, rows[:-1], pieces=True), False)
        self.assertIs(is_closed_class(pairs, 2, rows[:4]), True)
        self.assertIs(is_closed_class(pairs, 2, rows[:3]), False)

    def test_as_many_rows_as_may_be(self):
        for pieces in BOTH:
            self.assertEqual([len(known) for known in classes_of(Web(10), 2, pieces=pieces)], [1024])
            self.assert_same(classes_of(Web.full(10), 2, pieces=pieces), ())
            self.assert_same(classes_of(Web(10), 1, pieces=pieces), (((0,) * 10,),))
            self.assertEqual(len(classes_of(Web.path(10), 2, pieces=pieces)), 1 if pieces else 2)
            self.assertEqual(len(classes_of(Web(5) | Web.path(5), 2, pieces=pieces)), 1 if pieces else 2)
            self.assertEqual([len(known) for known in classes_of(Web(2), 20, pieces=pieces)], [400])
            self.assertEqual([len(known) for known in classes_of(Web(1), 20, pieces=pieces)], [20])
            self.assertEqual([len(known) for known in classes_of(Web.path(3), 12, pieces=pieces)], [12 * 11 * 11])
            self.assertEqual([len(known) for known in classes_of(Web.full(4), 6, pieces=pieces)], [360])
            self.assert_keeps(TooMany, 2000, with_pieces(classes_of), Web(3), 13, pieces)
            self.assert_keeps(TooMany, 2000, with_pieces(classes_of), Web.full(10), 3, pieces)
            self.assert_keeps(TooMany, 2000, with_pieces(classes_of), Web(7), 3, pieces)
            self.assert_keeps(TooMany, 10, with_pieces(classes_of), ELEVEN, 1, pieces)
            self.assert_keeps(TooMany, 10, with_pieces(classes_of), FULL, 20, pieces)

    def test_errors(self):
        self.assert_order(
            with_pieces(is_closed_class), (EDGE, wrong_webs(), InvalidWeb), (3, wrong_numbers(1, 20), InvalidNumber), judged(((0, 1),)), NO_BOOLEANS,
        )
        self.assert_order(
            with_pieces(classes_of), (EDGE, wrong_webs(), InvalidWeb), (3, wrong_numbers(1, 20), InvalidNumber), NO_BOOLEANS,
        )
        self.assert_raises(InvalidOperation, with_pieces(classes_of), FULL, 20, None)


class FrozenTest(Case):
    def test_all_rows_of_small_webs(self):
        for web in SMALL:
            for hues in (1, 2, 3):
                for row in all_rows(web, hues):
                    movable = any(is_movable(web, row, place, hue) for place in range(web.size) for hue in range(hues))
                    self.assertIs(is_frozen(web, hues, row), is_proper(web, row) and not movable)

    def test_edges(self):
        known = [
            (FULL, 20, EVERY, True), (LOTS, 2, (0,) * 10 + (1,) * 10, True), (LOTS, 3, (0,) * 10 + (1,) * 10, False), (BARE, 1, (0,) * 20, True),
            (BARE, 2, (0,) * 20, False), (TRIANGLES, 3, (0, 1, 2) * 6 + (0, 1), False), (TRIANGLES.without(19), 3, (0, 1, 2) * 6 + (0,), False),
            (FULL.without(0), 20, EVERY[:19], False), (FULL.without(0), 19, EVERY[:19], True), (Web(1), 1, (0,), True), (Web(1), 2, (1,), False),
            (side_by_side(*[Web.full(4)] * 5), 4, (0, 1, 2, 3) * 5, True), (STAR, 2, (1, 0, 0, 0, 0, 0), True), (PAIRS, 3, (0, 1, 2, 0, 1, 2), True),
        ]
        for web, hues, row, wanted in known:
            self.assertIs(is_frozen(web, hues, row), wanted, (web.ties, hues))
        # Only the last place can be moved.
        self.assertIs(is_frozen(PAIRS | Web(1), 3, (0, 1, 2, 0, 1, 2, 0)), False)

    def test_no_colourings(self):
        for value in [(0, 0), (0, 1, 0), (0,), [0, 1], (0, 2), (0, True), (False, 1), (0, -1), (0, None), *but(any_values(), (0, 1))]:
            self.assertIs(is_frozen(EDGE, 2, value), False)

    def test_errors(self):
        self.assert_order(is_frozen, (EDGE, wrong_webs(), InvalidWeb), (3, wrong_numbers(1, 20), InvalidNumber), judged((0, 1)))


if __name__ == "__main__":
    unittest.main()
