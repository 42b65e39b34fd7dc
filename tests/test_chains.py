"""Tests of chains, closed sets, and colourings shifted along chains."""

import itertools
import random
import unittest

from levelhues.base.webs import Web
from levelhues.errors import InvalidNumber, InvalidOperation, InvalidRow, InvalidWeb, NoChain
from levelhues.hue import chains
from levelhues.hue.chains import (
    chain,
    closed_set,
    evened,
    is_chain,
    is_closed_set,
    links,
    reaching,
    shifted,
    shifted_by,
)
from levelhues.hue.judged import greedy
from plain import (
    BARE,
    FULL,
    LOTS,
    TIGHT,
    TRIANGLES,
    all_chains,
    all_colourings,
    ascending_tuples,
    is_level,
    is_movable,
    is_proper,
    shift,
    some_webs,
)
from plain import is_chain as plain_is_chain
from plain import is_closed_set as plain_is_closed_set
from samples import (
    HUGE,
    RING,
    STAR,
    Case,
    all_webs,
    any_values,
    but,
    judged,
    nested,
    wrong_numbers,
    wrong_webs,
)

ALONE = Web(4, ((0, 1), (2, 3)))
WIDE_ROW = (0, 1, 1, 1, 1, 1)
ROW = (0, 1, 0, 1)
EVERY = tuple(range(20))
LADDER = Web(6, ((0, 1), (0, 2), (1, 2), (1, 3), (2, 4), (3, 4), (3, 5)))
WIDE = [
    (BARE, 1, (0,) * 20), (BARE, 3, (0,) * 20), (BARE, 20, (0,) * 20), (BARE, 20, EVERY), (FULL, 20, EVERY),
    (LOTS, 2, (0,) * 10 + (1,) * 10), (LOTS, 5, (0,) * 10 + (1, 2, 3, 4, 4) * 2), (TRIANGLES, 4, (0, 1, 2) * 6 + (0, 1)),
]


def small_colourings():
    """Colourings of small webs, with hues that no place has among them."""
    for web in [*all_webs(3), *all_webs(4)[11::9], RING]:
        for hues in range(1, 5):
            yield from [(web, hues, row) for row in all_colourings(web, hues)[::3 if web.size > 3 else 1]]


def wide_colourings():
    """Colourings of webs with up to twenty places."""
    yield from WIDE
    for web in [*some_webs(21, 30, 6, 20), *TIGHT]:
        order = tuple(range(web.size))
        for told in (order, order[::-1]):
            row = greedy(web, told)
            yield web, max(row) + 1, row
            yield web, min(20, max(row) + 3), row


def wrong_rows(web, hues, row):
    """Values that are no colourings."""
    values = [
        *any_values(), list(row), row[:-1], (*row, 0), (hues, *row[1:]), (-1, *row[1:]), (*row[:-1], None),
        (False, *row[1:]), (*row[:-1], True), (*row[:-1], (0,)),
    ]
    if web.ties:
        one, other = web.ties[0]
        values.append((*row[:other], row[one], *row[other + 1:]))
    return but(values, row)


def wrong_steps(web, hues, row):
    """Values that are no chains between any two hues of a colouring."""
    values = [
        *any_values(), (), ((),), ((0,),), ((0, row[0]),), ((0, hues),), ((0, -1),), ((web.size, 0),), ((-1, 0),),
        ((0, 0, 0),), ([0, 1],), [(0, 1)], ((0, True),), ((False, 1),), ((0, None),), (("0", 1),), ((0, HUGE),), (0, 1),
        ((HUGE, 0),), nested(lambda inner: (inner,), (0, 1)),
    ]
    return but(values, ((0, 1),)) if plain_is_chain(web, hues, row, row[0], 1, ((0, 1),)) else values


def linked_web(pairs, hues):
    """A web and a colouring in which just these pairs of hues are linked.

    The first places, one of each hue, are all tied. Each further place has the first hue of a pair, and is tied to
    those of the first places whose hues are not in the pair.
    """
    web = BARE.part(tuple(range(hues + len(pairs))))
    for one, other in itertools.combinations(range(hues), 2):
        web = web.tied(one, other)
    for at, pair in enumerate(pairs):
        for hue in range(hues):
            web = web.tied(hues + at, hue) if hue not in pair else web
    return web, (*range(hues), *[one for one, _ in pairs])


def fewest_steps(pairs, one, other):
    """The number of pairs that lead from a hue to another one at least, or None."""
    reached, many = {one}, 0
    while other not in reached:
        more = reached | {to for by, to in pairs if by in reached}
        if more == reached:
            return None
        reached, many = more, many + 1
    return many


class ChainCase(Case):
    def assert_chain_errors(self, call, web, hues, row, *more):
        """Check the errors of the arguments that all functions have, and of more."""
        self.assert_order(
            call, (web, wrong_webs(), InvalidWeb), (hues, wrong_numbers(1, 20), InvalidNumber),
            (row, wrong_rows(web, hues, row), InvalidRow), *more,
        )


class LinksTest(ChainCase):
    def assert_links(self, web, hues, row):
        wanted = {}
        for one, other in itertools.permutations(range(hues), 2):
            places = [at for at in range(web.size) if row[at] == one and is_movable(web, row, at, other)]
            if places:
                wanted[(one, other)] = tuple(places)
        self.assert_same(links(web, hues, row), wanted)

    def test_small_colourings(self):
        for web, hues, row in small_colourings():
            self.assert_links(web, hues, row)

    def test_up_to_twenty_places(self):
        for web, hues, row in wide_colourings():
            self.assert_links(web, hues, row)
        self.assert_same(links(FULL, 20, EVERY), {})
        self.assert_same(links(BARE, 1, (0,) * 20), {})
        self.assert_same(links(Web(1), 1, (0,)), {})

    def test_nothing_gives_access_to_state(self):
        found = links(ALONE, 3, ROW)
        found.clear()
        self.assert_same(links(ALONE, 3, ROW), {(0, 2): (0, 2), (1, 2): (1, 3)})

    def test_errors(self):
        self.assert_chain_errors(links, ALONE, 3, ROW)
        self.assert_chain_errors(links, Web(1), 1, (0,))
        self.assert_chain_errors(links, BARE, 20, EVERY)


class ChainTest(ChainCase):
    def test_small_colourings(self):
        for web, hues, row in small_colourings():
            for one, other in itertools.permutations(range(hues), 2):
                told = all_chains(web, hues, row, one, other)
                barred = closed_set(web, hues, row, one, other)
                self.assertIs(barred is None, bool(told))
                if told:
                    found = chain(web, hues, row, one, other)
                    self.assertIn(found, told)
                    self.assertEqual(len(found), min(len(steps) for steps in told))
                    self.assertEqual((type(found), {type(step) for step in found}), (tuple, {tuple}))
                else:
                    self.assert_keeps(NoChain, (one, other), chain, web, hues, row, one, other)
                    self.assertTrue(plain_is_closed_set(web, row, other, barred) and one not in barred)
                    self.assertEqual(barred, tuple(sorted(set(barred))))

    def test_up_to_twenty_places(self):
        for web, hues, row in wide_colourings():
            for one, other in itertools.permutations(range(hues), 2):
                barred = closed_set(web, hues, row, one, other)
                if barred is None:
                    found = chain(web, hues, row, one, other)
                    self.assertTrue(plain_is_chain(web, hues, row, one, other, found))
                    self.assertIs(is_chain(web, hues, row, one, other, found), True)
                else:
                    self.assertIs(is_closed_set(web, hues, row, other, barred), True)
                    self.assertTrue(plain_is_closed_set(web, row, other, barred) and one not in barred)
                    self.assert_keeps(NoChain, (one, other), chain, web, hues, row, one, other)

    def test_fewest_pairs(self):
        chance = random.Random(22)
        told = [((1, 0), (2, 0), (3, 2), (4, 3), (4, 1)), ((2, 0), (1, 0), (3, 1), (4, 3), (4, 2)), ((4, 0), (0, 4))]
        for _ in range(150):
            hues = chance.randint(4, 6)
            pairs = list(itertools.permutations(range(hues), 2))
            told.append(tuple(chance.sample(pairs, chance.randint(3, 12))))
        for pairs in told:
            hues = max(5, *[max(pair) + 1 for pair in pairs])
            web, row = linked_web(pairs, hues)
            self.assertEqual(sorted(links(web, hues, row)), sorted(pairs))
            for one, other in itertools.permutations(range(hues), 2):
                fewest = fewest_steps(pairs, one, other)
                if fewest is None:
                    self.assert_keeps(NoChain, (one, other), chain, web, hues, row, one, other)
                else:
                    found = chain(web, hues, row, one, other)
                    self.assertTrue(plain_is_chain(web, hues, row, one, other, found))
                    self.assertEqual(len(found), fewest)

    def test_a_long_chain(self):
        # Each of the first five hues links to the next one and to the one ahead of it only.
        web = BARE
        for one, other in itertools.combinations(range(6), 2):
            web = web.tied(one + 6, other)
            web = web.tied(one, other + 6) if other != one + 1 else web
        row = (0, 1, 2, 3, 4, 5) * 2 + (5,) * 8
        steps = tuple((place, place + 1) for place in range(5))
        self.assert_same(chain(web, 6, row, 0, 5), steps)
        self.assertIs(is_chain(web, 6, row, 0, 5, steps), True)
        self.assertIsNone(closed_set(web, 6, row, 0, 5))

    def test_errors(self):
        for call in (chain, closed_set):
            for web, hues, row in ((ALONE, 3, ROW), (BARE, 20, EVERY), (Web(1), 2, (0,))):
                wrong = wrong_numbers(0, hues - 1)
                self.assert_chain_errors(
                    call, web, hues, row, (0, wrong, InvalidNumber), (hues - 1, wrong, InvalidNumber)
                )
                self.assert_raises(InvalidOperation, call, web, hues, row, 1, 1)
            self.assert_raises(InvalidOperation, call, Web(1), 1, (0,), 0, 0)
        self.assert_keeps(NoChain, (1, 0), chain, STAR, 2, WIDE_ROW, 1, 0)
        self.assert_keeps(NoChain, (1, 0), chain, Web(1), 2, (0,), 1, 0)


class IsChainTest(ChainCase):
    def test_small_colourings(self):
        for web, hues, row in list(small_colourings())[::7]:
            steps = list(itertools.product(range(web.size), range(hues)))
            values = [value for many in range(3) for value in itertools.product(steps, repeat=many)]
            for one, other in itertools.product(range(hues), repeat=2):
                for value in values:
                    wanted = one != other and plain_is_chain(web, hues, row, one, other, value)
                    self.assertIs(is_chain(web, hues, row, one, other, value), wanted)

    def test_each_chain_is_one_whoever_made_it(self):
        for web, hues, row in [*list(small_colourings())[::5], (LADDER, 5, (0, 1, 2, 0, 3, 2))]:
            for one, other in itertools.permutations(range(hues), 2):
                for value in all_chains(web, hues, row, one, other):
                    self.assertIs(is_chain(web, hues, row, one, other, value), True)
                    self.assertIs(is_chain(web, hues, row, other, one, value), False)
                    self.assertIs(is_chain(web, hues, row, one, one, value), False)

    def test_twenty_places(self):
        steps = tuple((place, place + 1) for place in range(19))
        self.assertIs(is_chain(BARE, 20, EVERY, 0, 19, steps), True)
        self.assertIs(is_chain(BARE, 20, EVERY, 0, 18, steps), False)
        self.assertIs(is_chain(BARE, 20, EVERY, 0, 19, ((0, 19),)), True)
        self.assertIs(is_chain(BARE, 20, EVERY, 0, 19, (*steps, (19, 0))), False)
        self.assertIs(is_chain(BARE, 20, EVERY, 0, 0, (*steps, (19, 0))), False)
        self.assertIs(is_chain(BARE, 20, EVERY, 0, 5, ((0, 3), (3, 1), (1, 3), (3, 5))), False)
        self.assertIs(is_chain(FULL, 20, EVERY, 0, 19, ((0, 19),)), False)

    def test_any_value(self):
        for web, hues, row in ((ALONE, 3, ROW), (BARE, 20, EVERY), (Web(1), 2, (0,)), (FULL, 20, EVERY)):
            for value in wrong_steps(web, hues, row):
                for one, other in ((0, 1), (1, 0), (0, 0)):
                    with self.subTest(value=repr(value)):
                        self.assertIs(is_chain(web, hues, row, one, other, value), False)
        self.assertIs(is_chain(Web(1), 1, (0,), 0, 0, ()), False)

    def test_errors(self):
        wrong = wrong_numbers(0, 2)
        self.assert_chain_errors(
            is_chain, ALONE, 3, ROW, (0, wrong, InvalidNumber), (2, wrong, InvalidNumber), judged(((2, 2),))
        )


class ReachingTest(ChainCase):
    def assert_reaching(self, web, hues, row):
        """Check what reaches each hue against the closed sets, which are all looked at."""
        for other in range(hues):
            told = [value for value in ascending_tuples(hues) if plain_is_closed_set(web, row, other, value)]
            found = reaching(web, hues, row, other)
            self.assertIn(found, told)
            self.assertTrue(all(set(found) <= set(value) for value in told))
            for value in ascending_tuples(hues):
                self.assertIs(is_closed_set(web, hues, row, other, value), value in told)

    def test_small_colourings(self):
        for web, hues, row in small_colourings():
            self.assert_reaching(web, hues, row)

    def test_up_to_twenty_places(self):
        for web, hues, row in wide_colourings():
            if hues <= 6:
                self.assert_reaching(web, hues, row)
        self.assert_same(reaching(FULL, 20, EVERY, 7), (7,))
        self.assert_same(reaching(BARE, 20, EVERY, 7), EVERY)
        self.assert_same(reaching(BARE, 20, (0,) * 20, 7), (0, 7))
        self.assert_same(reaching(Web(1), 1, (0,), 0), (0,))

    def test_errors(self):
        for web, hues, row in ((ALONE, 3, ROW), (BARE, 20, EVERY), (Web(1), 1, (0,))):
            self.assert_chain_errors(reaching, web, hues, row, (0, wrong_numbers(0, hues - 1), InvalidNumber))


class IsClosedSetTest(ChainCase):
    def test_any_value(self):
        for web, hues, row in ((ALONE, 3, ROW), (STAR, 2, WIDE_ROW), (BARE, 20, EVERY), (Web(1), 1, (0,))):
            for value in any_values():
                with self.subTest(value=repr(value)):
                    integers = isinstance(value, tuple) and all(type(hue) is int for hue in value)
                    ascending = integers and value == tuple(sorted(set(value) & set(range(hues))))
                    wanted = ascending and plain_is_closed_set(web, row, 0, value)
                    self.assertIs(is_closed_set(web, hues, row, 0, value), wanted)

    def test_edges(self):
        self.assertIs(is_closed_set(FULL, 20, EVERY, 19, (19,)), True)
        self.assertIs(is_closed_set(FULL, 20, EVERY, 19, (0, 5, 19)), True)
        self.assertIs(is_closed_set(FULL, 20, EVERY, 19, (0, 5)), False)
        self.assertIs(is_closed_set(FULL, 20, EVERY, 19, (19, 0)), False)
        self.assertIs(is_closed_set(FULL, 20, EVERY, 19, (19, 20)), False)
        self.assertIs(is_closed_set(FULL, 20, EVERY, 1, (True,)), False)
        self.assertIs(is_closed_set(FULL, 20, EVERY, 1, [1]), False)
        self.assertIs(is_closed_set(BARE, 20, EVERY, 0, EVERY), True)
        self.assertIs(is_closed_set(BARE, 20, EVERY, 0, EVERY[:-1]), False)

    def test_errors(self):
        self.assert_chain_errors(is_closed_set, STAR, 2, WIDE_ROW, (0, wrong_numbers(0, 1), InvalidNumber), judged((0,)))


class ShiftedTest(ChainCase):
    def test_small_colourings(self):
        for web, hues, row in list(small_colourings())[::3]:
            for one, other in itertools.permutations(range(hues), 2):
                for steps in all_chains(web, hues, row, one, other):
                    wanted = shift(row, steps)
                    self.assert_same(shifted(web, hues, row, steps), wanted)
                    self.assert_same(shifted_by(web, hues, row, (steps,)), wanted)
                    self.assertTrue(is_proper(web, wanted))
                    self.assertEqual([wanted.count(one), wanted.count(other)], [row.count(one) - 1, row.count(other) + 1])

    def test_twenty_places(self):
        steps = tuple((place, place + 1) for place in range(19))
        self.assert_same(shifted(BARE, 20, EVERY, steps), (*range(1, 20), 19))
        self.assert_same(shifted(BARE, 20, EVERY, ((0, 1),)), (1, *range(1, 20)))
        self.assert_same(shifted_by(BARE, 20, EVERY, (((0, 1),), ((1, 0),))), (1, 0, *range(2, 20)))
        self.assert_same(shifted_by(BARE, 20, EVERY, ()), EVERY)

    def test_steps_are_no_chain(self):
        for web, hues, row in ((ALONE, 3, ROW), (BARE, 20, EVERY), (Web(1), 2, (0,)), (FULL, 20, EVERY)):
            for steps in wrong_steps(web, hues, row):
                with self.subTest(steps=repr(steps)):
                    self.assert_raises(InvalidOperation, shifted, web, hues, row, steps)
                    self.assert_raises(InvalidOperation, shifted_by, web, hues, row, (steps,))
        for steps in (((0, 1),), ((0, 2), (1, 2)), ((0, 2), (2, 1)), ((0, 2), (0, 1)), ((0, 2), (2, 0))):
            self.assert_raises(InvalidOperation, shifted, ALONE, 3, ROW, steps)

    def test_chains_come_one_behind_the_other(self):
        first, second = ((2, 2),), ((3, 0),)
        self.assert_raises(InvalidOperation, shifted, ALONE, 3, ROW, second)
        self.assert_same(shifted_by(ALONE, 3, ROW, (first, second)), (0, 1, 2, 0))
        self.assert_raises(InvalidOperation, shifted_by, ALONE, 3, ROW, (second, first))
        self.assert_raises(InvalidOperation, shifted_by, ALONE, 3, ROW, (first, first))
        self.assert_raises(InvalidOperation, shifted_by, ALONE, 3, ROW, (first, ()))

    def test_errors(self):
        for web, hues, row, steps in ((ALONE, 3, ROW, ((2, 2),)), (BARE, 20, EVERY, ((0, 19),)), (Web(1), 2, (0,), ((0, 1),))):
            wrong = wrong_steps(web, hues, row)
            self.assert_chain_errors(shifted, web, hues, row, (steps, wrong, InvalidOperation))
            self.assert_chain_errors(
                shifted_by, web, hues, row, ((steps,), [*but(wrong, ()), [steps], steps, {0: steps}], InvalidOperation)
            )


class EvenedTest(ChainCase):
    def assert_evened(self, web, hues, row):
        """Check each chain of the result, and that there is no more behind the last one."""
        found = evened(web, hues, row)
        self.assertIs(type(found), tuple)
        self.assert_same(shifted_by(web, hues, row, found), self.assert_steps(web, hues, row, found))

    def assert_steps(self, web, hues, row, found):
        for steps in found:
            one, other = row[steps[0][0]], steps[-1][1]
            self.assertTrue(plain_is_chain(web, hues, row, one, other, steps))
            self.assertGreaterEqual(row.count(one), row.count(other) + 2)
            row = shift(row, steps)
        for one, other in itertools.permutations(range(hues), 2):
            if row.count(one) >= row.count(other) + 2:
                self.assertIsNotNone(closed_set(web, hues, row, one, other))
        least = [hue for hue in range(hues) if row.count(hue) == min(row.count(at) for at in range(hues))]
        if any(reaching(web, hues, row, hue) == tuple(range(hues)) for hue in least):
            self.assertTrue(is_level(row, hues))
        return row

    def test_small_colourings(self):
        for web, hues, row in small_colourings():
            self.assert_evened(web, hues, row)

    def test_up_to_twenty_places(self):
        for web, hues, row in wide_colourings():
            self.assert_evened(web, hues, row)
        self.assert_same(evened(BARE, 1, (0,) * 20), ())
        self.assert_same(evened(FULL, 20, EVERY), ())
        self.assertEqual(len(evened(BARE, 20, (0,) * 20)), 19)
        self.assert_same(evened(STAR, 2, WIDE_ROW), ())

    def test_chains_do_not_make_each_colouring_level(self):
        # There are more hues than the greatest degree, but no chain leads to the lesser ones.
        web, row = Web(3) + Web(3), (0, 0, 0, 1, 2, 3)
        self.assertGreater(4, web.most)
        self.assert_same(evened(web, 4, row), ())
        self.assertFalse(is_level(row, 4))

    def test_errors(self):
        for web, hues, row in ((ALONE, 3, ROW), (BARE, 20, EVERY), (Web(1), 1, (0,))):
            self.assert_chain_errors(evened, web, hues, row)


class InterfaceTest(Case):
    def test_each_function_is_defined_in_the_file(self):
        for name in "links chain is_chain closed_set is_closed_set reaching shifted evened shifted_by".split():
            self.assertEqual(getattr(chains, name).__module__, "levelhues.hue.chains")


if __name__ == "__main__":
    unittest.main()
