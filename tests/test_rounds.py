"""Tests of rounds of ties: found, judged, exchanged along ways, and made level."""

import itertools
import random
import unittest

from levelhues.base.joined import odd_ring, sides
from levelhues.base.webs import Web
from levelhues.errors import InvalidNumber, InvalidOperation, InvalidWeb, Refused
from levelhues.ties import rounds as module
from levelhues.ties.rounds import evened_rounds, is_rounds, rounds, way_exchanged, way_of
from plain import BARE, FULL, LOTS, TIGHT, TRIANGLES, bounded_web, round_web, side_by_side, some_webs
from samples import HUGE, PAIRS, RING, SIDES, STAR, Case, all_webs, any_values, but, judged, wrong_numbers, wrong_webs

LOTTED = (((0, 1), (2, 3)), ((1, 2), (3, 4)), ((0, 4),))
SMALL = [*all_webs(4), *all_webs(5)[-1024::7], RING, STAR, SIDES, PAIRS]
# Places that have all their ties, or all but one: what is known to be hard about rounds.
HARD = [
    *[Web.full(size) for size in range(1, 11)], FULL, FULL.without(0), FULL.untied(0, 1), LOTS, LOTS.without(3),
    Web(5) + Web(6), *TIGHT, Web.full(9) | Web.full(10), round_web(9, (1, 2, 3)), round_web(11, (1, 2, 3, 4)),
    # The web with ten places, three ties at each, and no three rounds: two rings of five, tied to one another.
    Web(10, tuple(sorted(
        [tuple(sorted((at, (at + 1) % 5))) for at in range(5)] + [(at, at + 5) for at in range(5)]
        + [tuple(sorted((5 + at, 5 + (at + 2) % 5))) for at in range(5)]
    ))),
]


def plain_is_round(web, part):
    places = [place for tie in part for place in tie]
    return list(part) == sorted(set(part)) and set(part) <= set(web.ties) and len(set(places)) == len(places)


def plain_is_rounds(web, number, value, level):
    """Tell by the words of the document whether a tuple of tuples of pairs of integers is rounds of the web."""
    if len(value) != number or not all(plain_is_round(web, part) for part in value):
        return False
    if any(sum(tie in part for part in value) != 1 for tie in web.ties):
        return False
    return not level or all(abs(len(one) - len(other)) <= 1 for one in value for other in value)


def all_partings(web, number):
    """All ways to put each tie into one of so many ascending tuples."""
    for told in itertools.product(range(number), repeat=len(web.ties)):
        yield tuple(tuple(tie for tie, at in zip(web.ties, told) if at == own) for own in range(number))


def all_rounds(web, number):
    return [value for value in all_partings(web, number) if all(plain_is_round(web, part) for part in value)]


def plain_way(ties, tie):
    """The ties that come to a tie by common places, again and again."""
    way = {tie}
    while True:
        more = {other for other in ties for known in way if set(other) & set(known)}
        if more <= way:
            return tuple(sorted(way))
        way |= more


def least_number(web):
    return max(1, web.most if sides(web) is not None else web.most + 1)


def lopsided(chance, web, number):
    """Rounds that are not level: those found, some exchanged many times along some of their ways."""
    value = rounds(web, number)
    for _ in range(40):
        one, other = chance.sample(range(number), 2) if number > 1 else (0, 0)
        if one != other and value[one]:
            longer = way_exchanged(web, value, one, other, chance.choice(value[one]))
            if len(longer[other]) >= len(value[other]):
                value = longer
    return value


def some_rounds():
    """Rounds of many webs, level ones and others."""
    chance = random.Random(101)
    for web in [*SMALL[::6], *some_webs(102, 30, 6, 10), *some_webs(103, 12, 11, 20), *HARD[::4]]:
        for number in {least_number(web), min(20, least_number(web) + chance.randint(0, 4)), 20}:
            yield web, number, lopsided(chance, web, number)


def packed_rounds():
    """Rounds in which the first ones have all ties that they can have, and the last ones none."""
    for web in [*SMALL[::5], *some_webs(104, 30, 6, 10), BARE, LOTS, TRIANGLES]:
        parts = []
        left = list(web.ties)
        while left:
            part = []
            for tie in left:
                if not any(set(tie) & set(other) for other in part):
                    part.append(tie)
            left = [tie for tie in left if tie not in part]
            parts.append(tuple(part))
        for lacking in {1, 20 - len(parts)}:
            value = (*parts, *((),) * lacking)
            if len(value) <= 20:
                yield web, len(value), value


class RoundsTest(Case):
    def assert_rounds(self, web, number):
        """Check that there are rounds exactly if [10.2] promises them, and that they are level."""
        known = (web.size, web.ties, number)
        if number < web.most or number == web.most and odd_ring(web) is not None:
            self.assert_keeps(Refused, number, rounds, web, number)
        else:
            value = rounds(web, number)
            self.assertIs(type(value), tuple, known)
            self.assertTrue(plain_is_rounds(web, number, value, True), known)
            self.assertIs(is_rounds(web, number, value), True, known)
            self.assert_same(rounds(web, number), value)

    def test_all_numbers_for_many_webs(self):
        for web in [*all_webs(4), *all_webs(5)[-1024::3], *some_webs(105, 150, 6, 10), STAR, SIDES, PAIRS]:
            for number in range(1, 21):
                self.assert_rounds(web, number)

    def test_hard_webs(self):
        for web in HARD:
            for number in range(1, 21):
                self.assert_rounds(web, number)

    def test_webs_with_as_many_ties_at_each_place_as_may_be(self):
        chance = random.Random(106)
        for _ in range(150):
            web = bounded_web(chance, chance.randint(5, 20), chance.randint(1, 7))
            for number in range(max(1, web.most - 1), web.most + 3):
                self.assert_rounds(web, number)

    def test_webs_with_sides(self):
        chance = random.Random(107)
        for _ in range(120):
            one, other = chance.randint(1, 10), chance.randint(1, 10)
            wide = Web(one) + Web(other)
            for tie in wide.ties:
                if chance.random() < 0.4:
                    wide = wide.untied(*tie)
            for number in range(max(1, wide.most - 1), min(20, wide.most + 2) + 1):
                self.assert_rounds(wide, number)

    def test_none_where_a_plain_look_finds_none(self):
        for web in all_webs(4):
            for number in range(1, 4):
                level = [value for value in all_rounds(web, number) if plain_is_rounds(web, number, value, True)]
                if web.most < number or web.most == number and sides(web):
                    self.assertIn(rounds(web, number), level)
                elif web.most > number:
                    self.assertEqual(level, [])

    def test_without_ties(self):
        for web in (Web(1), Web(7), BARE):
            self.assert_same(rounds(web, 1), ((),))
            self.assert_same(rounds(web, 20), ((),) * 20)

    def test_errors(self):
        self.assertEqual(module.MAX_ROUNDS, 20)
        self.assert_order(rounds, (RING, wrong_webs(), InvalidWeb), (3, wrong_numbers(1, 20), InvalidNumber))
        self.assert_keeps(Refused, 2, rounds, RING, 2)
        self.assert_keeps(Refused, 18, rounds, FULL, 18)
        self.assert_keeps(Refused, 19, rounds, FULL, 19)


class IsRoundsTest(Case):
    def test_all_partings_of_small_webs(self):
        for web in [*all_webs(3), *all_webs(4)[-64::6], Web.path(5), RING]:
            for number in range(1, 4):
                for value in all_partings(web, number):
                    self.assertIs(is_rounds(web, number, value), plain_is_rounds(web, number, value, True))
                    self.assertIs(is_rounds(web, number, value, level=True), plain_is_rounds(web, number, value, True))
                    self.assertIs(is_rounds(web, number, value, level=False), plain_is_rounds(web, number, value, False))

    def test_ones_changed_in_one_thing(self):
        right = LOTTED
        self.assertIs(is_rounds(RING, 3, right), True)
        self.assertIs(is_rounds(RING, 3, right[::-1]), True)
        changed = [
            (((2, 3), (0, 1)), right[1], right[2]), (((0, 1), (3, 2)), right[1], right[2]), (*right, ()), right[:2],
            (((0, 1),), right[1], right[2]), (right[0], right[1], ((0, 4), (0, 4))), (right[0], right[1], ((0, 4), (1, 2))),
            (right[0], right[1], ((0, 3),)), (right[0], right[1], ((0, 3), (0, 4))), (right[0], right[1], ((0, 5),)),
            (right[0], right[1], ((0, 1), (0, 4))), (right[0], right[1], ((False, 4),)), (right[0], right[1], ([0, 4],)),
            (right[0], right[1], [(0, 4)]), list(right), (right[0], right[1], ((0, 4, 4),)), (right[0], right[1], ((0,),)),
            (right[0], right[1], (0, 4)), (right[0], right[1], None), (right[0], right[1], ((0, 4), None)),
            (right[0], right[1], ()), (right[0], ((1, 2), (1, 2), (3, 4)), right[2]), (((0, True), (2, 3)), *right[1:]),
            (right[0], right[1], {(0, 4): 0}), (right[0], right[1], ((0, HUGE),)), (right[0], right[1], ((-1, 0),)),
        ]
        for value in changed:
            with self.subTest(value=value):
                self.assertIs(is_rounds(RING, 3, value), False)
                self.assertIs(is_rounds(RING, 3, value, level=False), False)
        self.assertIs(is_rounds(RING, 4, (*right, ()), level=False), True)
        self.assertIs(is_rounds(RING, 4, (*right, ())), False)
        self.assertIs(is_rounds(RING, 4, right, level=False), False)
        self.assertIs(is_rounds(Web.path(5), 3, right), False)

    def test_all_values(self):
        for value in any_values():
            for level in (True, False):
                self.assertIs(is_rounds(RING, 1, value, level=level), False)
        for value in but(any_values(), ((), ())):
            self.assertIs(is_rounds(Web(3), 2, value), False)
        self.assertIs(is_rounds(Web(3), 2, ((), ())), True)
        self.assertIs(is_rounds(Web(3), 20, ((),) * 20), True)
        self.assertIs(is_rounds(Web(3), 20, ((),) * 21), False)

    def test_up_to_twenty_places(self):
        # Each place of the one side meets one place more each time.
        value = tuple(tuple((place, 10 + (place + at) % 10) for place in range(10)) for at in range(10))
        self.assertIs(is_rounds(LOTS, 10, value), True)
        self.assertIs(is_rounds(LOTS, 10, (value[0][1:], *value[1:])), False)
        self.assertIs(is_rounds(LOTS.untied(0, 10), 10, (value[0][1:], *value[1:])), True)
        self.assertIs(is_rounds(LOTS, 11, (*value, ())), False)
        self.assertIs(is_rounds(LOTS, 11, (*value, ()), level=False), True)
        self.assertIs(is_rounds(LOTS, 20, (*value, *((),) * 10), level=False), True)

    def test_errors(self):
        self.assert_order(
            lambda web, number, value, level: is_rounds(web, number, value, level=level),
            (RING, wrong_webs(), InvalidWeb), (3, wrong_numbers(1, 20), InvalidNumber), judged(LOTTED),
            (True, but(any_values(), True, False), InvalidOperation),
        )


class WayTest(Case):
    def assert_way(self, web, value, one, other, tie):
        way = way_of(web, value, one, other, tie)
        self.assert_same(way, plain_way([*value[one], *value[other]], tie))
        moved = way_exchanged(web, value, one, other, tie)
        wanted = list(value)
        wanted[one] = tuple(sorted(set(value[one]) ^ set(way)))
        wanted[other] = tuple(sorted(set(value[other]) ^ set(way)))
        self.assert_same(moved, tuple(wanted))
        self.assertTrue(plain_is_rounds(web, len(value), moved, False))
        self.assert_same(way_exchanged(web, moved, one, other, tie), value)
        return way, moved

    def test_each_tie_of_two_rounds(self):
        for web, number, value in some_rounds():
            pairs = list(itertools.permutations(range(number), 2))
            for one, other in pairs[:: max(1, len(pairs) // 6)]:
                for tie in [*value[one], *value[other]]:
                    self.assert_way(web, value, one, other, tie)

    def test_some_way_makes_two_rounds_less_unlike(self):
        for web, number, value in [*some_rounds(), *packed_rounds()]:
            for one, other in itertools.permutations(range(number), 2):
                if len(value[one]) >= len(value[other]) + 2:
                    moved = [way_exchanged(web, value, one, other, tie) for tie in value[one]]
                    self.assertIn(len(value[one]) - 1, [len(parts[one]) for parts in moved])

    def test_ways_of_rings_and_paths(self):
        way, _ = self.assert_way(RING, LOTTED, 0, 2, (0, 4))
        self.assert_same(way, ((0, 1), (0, 4)))
        long = side_by_side(Web.path(10), Web.path(10)).tied(9, 10)
        turns = (long.ties[::2], long.ties[1::2])
        self.assert_same(way_of(long, turns, 0, 1, (8, 9)), long.ties)
        self.assert_same(way_exchanged(long, turns, 1, 0, (9, 10)), turns[::-1])
        wide = round_web(20, (1,))
        turns = (tuple(sorted(tie for tie in wide.ties if tie[0] % 2 == 0 and tie != (0, 19))), ())
        turns = (turns[0], tuple(tie for tie in wide.ties if tie not in turns[0]))
        self.assert_same(way_of(wide, turns, 1, 0, (0, 19)), wide.ties)
        self.assert_same(way_of(PAIRS, (((0, 1), (3, 4)), ((0, 2), (3, 5)), ((1, 2), (4, 5))), 0, 1, (3, 5)), ((3, 4), (3, 5)))

    def test_errors(self):
        wrong_rounds = [
            *any_values(), LOTTED[:2], (*LOTTED[:2], ((0, 4), (0, 4))), (((0, 1), (1, 2), (2, 3)), ((3, 4),), ((0, 4),)),
            (*LOTTED, *((),) * 18), list(LOTTED), (((2, 3), (0, 1)), *LOTTED[1:]), (*LOTTED[:2], ((False, 4),)),
            (*LOTTED, LOTTED[0]), (*LOTTED[:2], ((0, 3), (0, 4))), (*LOTTED[:2], [(0, 4)]),
        ]
        for call in (way_of, way_exchanged):
            self.check_way_errors(call, wrong_rounds)

    def check_way_errors(self, call, wrong_rounds):
        wrong_ties = [*but(any_values(), (0, 1)), (1, 2), (3, 4), (4, 0), (False, 4), [0, 4], (0, 4, 4), (0, 3), (0, 2), "04"]
        self.assert_order(
            call, (RING, wrong_webs(), InvalidWeb), (LOTTED, wrong_rounds, InvalidOperation),
            (0, wrong_numbers(0, 2), InvalidNumber), (2, wrong_numbers(0, 2), InvalidNumber),
            ((0, 4), wrong_ties, InvalidOperation),
        )
        for tie in ((0, 1), (1, 2), None):
            self.assert_raises(InvalidOperation, call, RING, LOTTED, 1, 1, tie)
        self.assert_raises(InvalidOperation, call, RING, ((), *LOTTED, ()), 0, 4, (0, 1))
        self.assert_keeps(InvalidNumber, 3, call, RING, LOTTED, 3, 4, (0, 1))


class EvenedTest(Case):
    def test_as_many_level_rounds(self):
        for web, number, value in [*some_rounds(), *packed_rounds()]:
            made = evened_rounds(web, value)
            self.assertTrue(plain_is_rounds(web, number, made, True), (web.ties, value))
            self.assertIs(is_rounds(web, number, made), True)

    def test_all_rounds_of_small_webs(self):
        for web in [*all_webs(4)[::5], Web.path(5), RING]:
            for number in range(1, 4):
                for value in all_rounds(web, number):
                    self.assertTrue(plain_is_rounds(web, number, evened_rounds(web, value), True))

    def test_no_fewer_rounds_than_there_are(self):
        # Four places that are all tied have no sides, but three rounds all the same.
        web = Web.full(4)
        value = (((0, 1), (2, 3)), ((0, 2), (1, 3)), ((0, 3), (1, 2)))
        self.assertTrue(plain_is_rounds(web, 3, evened_rounds(web, value), True))
        self.assertTrue(plain_is_rounds(web, 4, evened_rounds(web, (*value, ())), True))
        self.assert_same(evened_rounds(Web(9), ((),) * 20), ((),) * 20)
        self.assert_same(evened_rounds(Web(1), ((),)), ((),))

    def test_errors(self):
        wrong = [
            *any_values(), LOTTED[:2], (*LOTTED, *((),) * 18), list(LOTTED), (*LOTTED[:2], ((0, 4), (0, 4))),
            (((0, 1), (0, 4)), *LOTTED[1:]), (*LOTTED[:2], ((4, 0),)), (*LOTTED[:2], ((0, 4), (1, 3))),
        ]
        self.assert_order(evened_rounds, (RING, wrong_webs(), InvalidWeb), (LOTTED, wrong, InvalidOperation))
        self.assert_order(evened_rounds, (Web(2), wrong_webs(), InvalidWeb), (((), ()), but(any_values(), ((), ()), ((),)), InvalidOperation))


if __name__ == "__main__":
    unittest.main()
