"""The examples of the document, as they stand there."""

import unittest

from levelhues import errors
from levelhues.base import joined, rows, webs
from levelhues.group import laid, weights
from levelhues.hue import chains, judged, ways
from levelhues.level import bars, closed, exact, finding, promised
from levelhues.live import plan
from levelhues.text import formats
from levelhues.ties import rounds
from samples import PAIRS, RING, SIDES, STAR

MODULES = (
    errors, rows, webs, joined, judged, chains, finding, bars, exact, closed, rounds, weights, laid, formats, plan, promised, ways,
)
EXAMPLES = r"""
>>> [sizes((0, 1, 0, 2), 4), spread((0, 1, 0, 2), 4), is_level((0, 1, 0, 2), 3), is_level((0, 1, 0, 2), 4), level_sizes(7, 3), classes((1, 0, 1), 3)]
[(2, 1, 1, 0), 2, True, False, (3, 2, 2), ((1,), (0, 2), ())]
>>> [row_of(((2,), (0, 1))), exchanged((0, 1, 0), 3, 0, 2), renamed((3, 1, 3, 0)), are_alike((0, 1, 1), (2, 0, 0))]
[(1, 1, 0), (2, 1, 2), (0, 1, 0, 2), True]
>>> [RING.degrees, STAR.most, RING[0], RING.are_tied(4, 0), (0, 4) in RING, (4, 0) in RING, len(list(SIDES)), str(RING)]
[(2, 2, 2, 2, 2), 5, (1, 4), True, True, False, 9, 'web of 5 places, 5 ties']
>>> [(~RING).ties, Web.path(3) | Web.full(2) == PAIRS.part((0, 1, 3, 4, 5)), RING.is_apart((0, 2)), PAIRS.is_clique((3, 4, 5)), STAR.without(0) == Web(5)]
[((0, 2), (0, 3), (1, 3), (1, 4), (2, 4)), False, True, True, True]
>>> [Web(3) + Web(3) == SIDES, (SIDES - STAR).most, (SIDES & STAR).ties, RING.untied(0, 4) == Web.path(5), Web.path(3).tied(2, 0) == Web.full(3)]
[True, 3, ((0, 3), (0, 4), (0, 5)), True, True]
>>> [ring(5) == RING, parted((3, 3)) == SIDES, tree((0, 0, 0, 0, 0)) == STAR, rearranged(Web.path(3), (1, 0, 2)).ties, pieces(PAIRS), pieces(Web(2))]
[True, True, True, ((0, 1), (0, 2)), ((0, 1, 2), (3, 4, 5)), ((0,), (1,))]
>>> [sides(RING), is_odd_ring(RING, odd_ring(RING)), is_odd_ring(RING, (0, 4, 3, 2, 1)), is_odd_ring(RING, (0, 1, 2)), odd_ring(SIDES), len(greatest_apart(RING)), greatest_apart(STAR), len(greatest_clique(PAIRS))]
[None, True, True, False, None, 2, (1, 2, 3, 4, 5), 3]
>>> row = (0, 1, 0, 1, 2)
>>> [is_colouring(RING, 3, row), is_level_colouring(RING, 3, row), is_level_colouring(RING, 4, row), clashes(RING, (0, 0, 1, 0, 0)), movable(RING, 4, row, 1), movable(RING, 4, row, 4)]
[True, True, False, ((0, 1), (0, 4), (3, 4)), (2, 3), (3,)]
>>> [moved(RING, 3, row, 1, 2), piece_of(RING, 3, row, 0, 1), piece_exchanged(RING, 3, row, 4, 1), greedy(RING, (0, 1, 2, 3, 4)), greedy(STAR, (5, 4, 3, 2, 1, 0))]
[(0, 2, 0, 1, 2), (0, 1, 2, 3), (0, 1, 0, 2, 1), (0, 1, 0, 1, 2), (1, 0, 0, 0, 0, 0)]
>>> alone = Web(4, ((0, 1), (2, 3)))
>>> [links(alone, 3, (0, 1, 0, 1)), len(chain(alone, 3, (0, 1, 0, 1), 0, 2)), is_chain(alone, 3, (0, 1, 0, 1), 0, 2, ((2, 2),)), reaching(alone, 3, (0, 1, 0, 1), 2), closed_set(alone, 2, (0, 1, 0, 1), 0, 1)]
[{(0, 2): (0, 2), (1, 2): (1, 3)}, 1, True, (0, 1, 2), (1,)]
>>> wide = (0, 1, 1, 1, 1, 1)
>>> [reaching(STAR, 2, wide, 0), is_closed_set(STAR, 2, wide, 0, (0,)), evened(STAR, 2, wide), is_level(shifted_by(STAR, 6, wide, evened(STAR, 6, wide)), 6), shifted(alone, 3, (0, 1, 0, 1), ((2, 2),))]
[(0,), True, (), True, (0, 1, 2, 1)]
>>> chain(STAR, 2, wide, 1, 0)
raises NoChain
>>> [is_level_colouring(RING, 3, level_colouring(RING, 3)), level_colouring(RING, 2), level_colouring(STAR, 3), has_level(SIDES, 2), has_level(SIDES, 3), has_level(SIDES, 4)]
[True, None, None, True, False, True]
>>> [level_numbers(SIDES), fewest_level(SIDES), level_from(SIDES), level_numbers(STAR), level_from(RING), level_paper(SIDES, 3)[0], is_level_paper(RING, 3, ("colouring", (0, 1, 0, 1, 2)))]
[(2, 4, 5, 6), 2, 4, (4, 5, 6), 3, 'bar', True]
>>> [len(recoloured((0, 0, 1, 1, 2), level_again(RING, 3, (0, 0, 1, 1, 2)))), level_again(RING, 3, (0, 1, 0, 1, 2)), recoloured((0, 1), (0, 2))]
[2, (0, 1, 0, 1, 2), (1,)]
>>> [is_bar(PAIRS, 2, ("clique", (0, 1, 2))), clique_bar(RING, 2), is_bar(STAR, 3, ("place", 0, ())), is_bar(STAR, 4, ("place", 0, ())), place_bar(SIDES, 3)]
[True, None, True, False, None]
>>> [is_bar(STAR, 3, cases_bar(STAR, 3)), cases_bar(RING, 3), is_bar(SIDES, 3, bar(SIDES, 3)), bar(SIDES, 2)]
[True, None, True, None]
>>> cases = ("cases", (((), 0), ((0, 1), 1), ((0, 2), 1), ((1, 2), 1)))
>>> [is_bar(SIDES, 3, cases), is_bar(SIDES, 3, ("cases", cases[1][:2]))]
[True, False]
>>> star = Web(5, ((0, 1), (0, 2), (0, 3), (0, 4)))
>>> [sized_colouring(star, (1, 4)), sized_colouring(star, (2, 3)), count_colourings(star, 2), count_level(star, 2), count_level(star, 3)]
[(0, 1, 1, 1, 1), None, 2, 0, 18]
>>> [set_colouring(star, 3, {0: 2, 1: 0, 2: 0, 3: 1}), set_colouring(star, 3, {1: 0, 2: 0, 3: 0}), list_colouring(star, ((0, 1), (0,), (0,), (0,), (0,)), 4), list(colourings(Web(2, ((0, 1),)), 2))]
[(2, 0, 0, 1, 1), None, (1, 0, 0, 0, 0), [(0, 1), (1, 0)]]
>>> [is_tree(star), forest_apart(star), [tree_has_level(star, hues) for hues in (1, 2, 3)], is_tree(Web(2, ()))]
[True, 4, [False, False, True], False]
>>> [[parted_has_level((3, 3), hues) for hues in (1, 2, 3, 4, 7)], is_parting((3, 3), 4, ((1, 2), (2, 1))), is_parting((3, 3), 4, ((3,), (1, 1, 1))), parted_level((3, 3), 3)]
[[False, True, False, True, True], True, False, None]
>>> [path_has_level(9, 2), ring_has_level(9, 2), ring_has_level(9, 3), parted_has_level((1000, 999), 7)]
[True, False, True, False]
>>> lots = (((0, 1), (2, 3)), ((1, 2), (3, 4)), ((0, 4),))
>>> [is_rounds(RING, 3, lots), is_rounds(RING, 3, rounds(RING, 3)), is_rounds(star, 4, rounds(star, 4)), is_rounds(RING, 3, (lots[0], (), lots[1] + lots[2]))]
[True, True, True, False]
>>> [way_of(RING, lots, 0, 2, (0, 4)), way_exchanged(RING, lots, 0, 2, (0, 4)), way_of(RING, lots, 0, 1, (2, 3))]
[((0, 1), (0, 4)), (((0, 4), (2, 3)), ((1, 2), (3, 4)), ((0, 1),)), ((0, 1), (1, 2), (2, 3), (3, 4))]
>>> rounds(RING, 2)
raises Refused
>>> weights = (5, 1, 3, 3, 8)
>>> [weight_groups(weights, 2), weight_spread(weights, 2, (0, 1, 1, 1, 1)), is_weighted(star, weights, 3, (0, 1, 1, 1, 2)), weighted(star, weights, 2)]
[((0, 4), (2, 3), (1,)), 10, True, None]
>>> few = Web(3, ((0, 1),))
>>> [is_grouped(few, ((0, 2), (1,)), 2, grouped_colouring(few, ((0, 2), (1,)), 2)), is_grouped(star, ((0, 1), (2, 3, 4)), 4, (0, 1, 1, 2, 3)), grouped_colouring(star, ((0,), (1, 2, 3, 4)), 4), weight_spread((7,), 3, (1,))]
[True, True, None, 7]
>>> pairs = Web(5, ((0, 1), (2, 3)))
>>> [common_ties(pairs, pairs, (0, 1, 2, 3, 4)), is_laid(pairs, pairs, (0, 2, 1, 3, 4)), improved(pairs, pairs, (0, 2, 1, 3, 4)), is_laid(pairs, pairs, laid(pairs, pairs)), laid(star, star), swapped(pairs, pairs, (0, 1, 2, 3, 4), (1, 2))]
[((0, 1), (2, 3)), True, None, True, None, (0, 2, 1, 3, 4)]
>>> [write_web(pairs), write_row((0, 1, 1)), write_chain(((3, 1), (0, 2))), write_rounds(lots[1:] + ((),))]
['web 5\ntie 0 1\ntie 2 3', 'row 0 1 1', 'move 3 1\nmove 0 2', 'round 1-2 3-4\nround 0-4\nround -']
>>> [read_web(write_web(star)) == star, read_row("row 4"), read_chain("move 0 0"), read_rounds(write_rounds(lots)) == lots]
[True, (4,), ((0, 0),), True]
>>> read_web("web 3\ntie 1 0")
raises ParseError
>>> plan = Plan(2)
>>> [plan.add_work("b"), plan.add_work("a", ("b",)), plan.works in ({"a": 1, "b": 0}, {"a": 0, "b": 1}), plan.loads, plan.clashes, len(plan)]
[(), (), True, (1, 1), (('a', 'b'),), 2]
>>> [plan.hire(), plan.add_work("c", ("a", "b")), plan.loads, plan.web == Web(3, ((0, 1), (0, 2), (1, 2))), plan.undo(many=2), plan.people, str(plan)]
[(), (), (1, 1, 1), True, 2, 2, 'plan of 2 works, 1 clashes, 2 people']
>>> plan.add_work("c", ("a", "b"))
raises Refused
>>> [thickness(RING), thickness(STAR), thickness(SIDES), is_thin_order(STAR, 1, thin_order(STAR, 1)), thick_core(STAR, 1), is_thick_core(PAIRS, 1, (3, 4, 5)), is_thick_core(PAIRS, 1, (2, 3, 4, 5)), thin_order(RING, 1)]
[2, 1, 3, True, None, True, False, None]
>>> [tie_sum(STAR), promised_from(STAR), tie_sum(RING), promised_from(RING), promised_from(Web(3)), has_level_at_most(SIDES), has_level_at_most(RING), is_odd_shape(SIDES, ("lots", (0, 1, 2), (3, 4, 5)))]
[6, 4, 4, 3, 1, False, False, True]
>>> [odd_shape(Web.path(4)), has_level_at_most(Web.path(4)), odd_shape(Web.full(4)), is_odd_shape(RING, odd_shape(RING)), has_level_at_most(Web(4) + Web(4)), has_level_at_most(Web.full(2))]
[None, True, ('full', (0, 1, 2, 3)), True, True, False]
>>> edge = Web.path(2)
>>> [way(edge, 2, (0, 1), (1, 0)), closed_class(edge, 2, (0, 1), (1, 0)), classes_of(edge, 2), is_way(edge, 2, (0, 1), (1, 0), ((1, 0),), pieces=True), is_frozen(edge, 2, (0, 1)), is_frozen(edge, 3, (0, 1))]
[None, ((0, 1),), (((0, 1),), ((1, 0),)), True, True, False]
>>> [is_way(edge, 3, (0, 1), (1, 0), ((0, 2), (1, 0), (0, 1))), is_way(edge, 3, (0, 1), (1, 0), ((0, 1),)), is_way(edge, 3, (0, 1), (1, 0), way(edge, 3, (0, 1), (1, 0))), walked(RING, 3, (0, 1, 0, 1, 2), ((4, 1),), pieces=True)]
[True, False, True, (0, 1, 0, 2, 1)]
>>> [len(classes_of(RING, 3)), len(classes_of(RING, 3, pieces=True)), is_closed_class(edge, 2, ((0, 1), (1, 0))), is_closed_class(edge, 3, ((0, 1),)), is_way(RING, 3, (0, 1, 0, 1, 2), (0, 1, 0, 1, 2), ())]
[2, 1, True, False, True]
"""


def examples():
    """Yield each example with the line that tells its result, or None behind an assignment."""
    lines = EXAMPLES.strip().splitlines()
    for at, line in enumerate(lines):
        if line.startswith(">>> "):
            behind = lines[at + 1] if at + 1 < len(lines) else ">>> "
            yield line[len(">>> "):], None if behind.startswith(">>> ") else behind


class DocumentTest(unittest.TestCase):
    def test_examples(self):
        names = {"RING": RING, "STAR": STAR, "SIDES": SIDES, "PAIRS": PAIRS}
        for module in MODULES:
            names.update(vars(module))
        for code, wanted in examples():
            with self.subTest(code=code):
                if wanted is None:
                    exec(code, names)
                elif wanted.startswith("raises "):
                    with self.assertRaises(getattr(errors, wanted[len("raises "):])):
                        eval(code, names)
                else:
                    self.assertEqual(repr(eval(code, names)), wanted)


if __name__ == "__main__":
    unittest.main()
