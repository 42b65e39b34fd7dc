"""Tests of what the document promises of the whole program: its interface, its conventions and its main promise."""

import importlib
import inspect
import unittest

from levelhues import errors
from levelhues.base.checks import ascends
from levelhues.base.joined import greatest_clique
from levelhues.base.webs import Web
from levelhues.errors import HueError, InvalidNumber
from levelhues.hue.chains import evened, shifted_by
from levelhues.hue.judged import is_colouring, is_level_colouring
from levelhues.hue.ways import is_closed_class
from levelhues.level.bars import bar, is_bar
from levelhues.level.exact import colourings
from levelhues.level.finding import has_level, level_colouring, level_numbers, level_paper
from levelhues.level.promised import promised_from
from levelhues.live.plan import Plan
from plain import BARE, FULL, LOTS, TRIANGLES, all_colourings, level_colourings, some_webs
from plain import has_level as plain_has_level
from samples import PAIRS, RING, SIDES, STAR, Case, all_webs, any_values, shape

# Each module with its constants, and its functions with their parameters as a call shows them.
INTERFACE = {
    "base.rows": (
        {"MAX_PLACES": 10, "MAX_HUES": 20, "MOST_PLACES": 20},
        "is_row(value) sizes(row,hues) spread(row,hues) is_level(row,hues) classes(row,hues) row_of(parts) level_sizes(size,hues) "
        "exchanged(row,hues,one,other) renamed(row) are_alike(row,other)",
    ),
    "base.joined": (
        {},
        "ring(size) parted(parts) tree(parents) rearranged(web,row) pieces(web) sides(web) odd_ring(web) is_odd_ring(web,value) "
        "greatest_apart(web) greatest_clique(web)",
    ),
    "hue.judged": (
        {},
        "is_colouring(web,hues,value) is_level_colouring(web,hues,value) clashes(web,row) movable(web,hues,row,place) "
        "moved(web,hues,row,place,hue) piece_of(web,hues,row,place,hue) piece_exchanged(web,hues,row,place,hue) greedy(web,order)",
    ),
    "hue.chains": (
        {},
        "links(web,hues,row) chain(web,hues,row,one,other) is_chain(web,hues,row,one,other,value) closed_set(web,hues,row,one,other) "
        "is_closed_set(web,hues,row,other,value) reaching(web,hues,row,other) shifted(web,hues,row,steps) evened(web,hues,row) "
        "shifted_by(web,hues,row,rows)",
    ),
    "level.finding": (
        {"MAX_SEARCHED": 12},
        "level_colouring(web,hues) has_level(web,hues) level_paper(web,hues) is_level_paper(web,hues,value) level_numbers(web) "
        "fewest_level(web) level_from(web) level_again(web,hues,row) recoloured(row,other)",
    ),
    "level.bars": ({}, "is_bar(web,hues,value) clique_bar(web,hues) place_bar(web,hues) cases_bar(web,hues) bar(web,hues)"),
    "level.exact": (
        {"MAX_EXACT": 10, "MAX_LISTED": 7},
        "sized_colouring(web,sizes) set_colouring(web,hues,given) list_colouring(web,lists,most) count_colourings(web,hues) "
        "count_level(web,hues) colourings(web,hues)",
    ),
    "level.closed": (
        {"MAX_TOLD": 1000},
        "is_tree(web) forest_apart(web) tree_has_level(web,hues) parted_has_level(parts,hues) parted_level(parts,hues) "
        "is_parting(parts,hues,value) path_has_level(size,hues) ring_has_level(size,hues)",
    ),
    "ties.rounds": (
        {"MAX_ROUNDS": 20},
        "rounds(web,number) is_rounds(web,number,value,*,level=True) way_of(web,rounds,one,other,tie) "
        "way_exchanged(web,rounds,one,other,tie) evened_rounds(web,rounds)",
    ),
    "group.weights": (
        {"MAX_WEIGHT": 1000000},
        "grouped_colouring(web,groups,hues) is_grouped(web,groups,hues,value) weight_spread(weights,hues,row) "
        "weighted(web,weights,hues) is_weighted(web,weights,hues,value) weight_groups(weights,hues)",
    ),
    "group.laid": (
        {"MAX_LAID": 8},
        "common_ties(one,other,row) improved(one,other,row) swapped(one,other,row,pair) laid(one,other) is_laid(one,other,value)",
    ),
    "text.formats": (
        {},
        "write_web(web) write_row(row) write_chain(chain) write_rounds(rounds) read_web(text) read_row(text) read_chain(text) "
        "read_rounds(text)",
    ),
    "level.promised": (
        {},
        "thickness(web) thin_order(web,number) thick_core(web,number) is_thin_order(web,number,value) is_thick_core(web,number,value) "
        "tie_sum(web) promised_from(web) odd_shape(web) is_odd_shape(web,value) has_level_at_most(web)",
    ),
    "hue.ways": (
        {"MAX_ROWS": 2000},
        "walked(web,hues,row,steps,*,pieces=False) way(web,hues,row,other,*,pieces=False) is_way(web,hues,row,other,value,*,pieces=False) "
        "closed_class(web,hues,row,other,*,pieces=False) is_closed_class(web,hues,value,*,pieces=False) "
        "classes_of(web,hues,*,pieces=False) is_frozen(web,hues,value)",
    ),
    "base.webs": ({}, ""),
    "live.plan": ({"MAX_WORKS": 10, "MAX_PEOPLE": 10}, ""),
}
METHODS = {
    Web: "are_tied(one,other) is_apart(value) is_clique(value) part(places) without(place) tied(one,other) untied(one,other)",
    Plan: (
        "add_work(name,clashes=()) drop_work(name) clash(one,other) unclash(one,other) hire() dismiss() of(number) undo(*,many=1) "
        "redo(*,many=1) attempt() during(call) twin()"
    ),
}
PROPERTIES = {Web: ("size", "ties", "degrees", "most"), Plan: ("people", "works", "clashes", "loads", "web")}
SIGNS = {
    Web: ("__or__", "__add__", "__and__", "__sub__", "__invert__", "__getitem__", "__contains__", "__iter__", "__len__", "__eq__", "__str__"),
    Plan: ("__getitem__", "__contains__", "__iter__", "__len__", "__eq__", "__str__"),
}
ERRORS = {
    "HueError": ValueError, "InvalidWeb": HueError, "InvalidRow": HueError, "InvalidOperation": HueError, "ParseError": HueError,
    "UnknownName": KeyError, "NoChain": LookupError, "InvalidNumber": RuntimeError, "TooMany": OverflowError, "NothingToUndo": IndexError,
    "Refused": ArithmeticError,
}
LOTTED = (((0, 1), (2, 3)), ((1, 2), (3, 4)), ((0, 4),))
ROW = (0, 1, 0, 1, 2)
WIDE = (0, 1, 1, 1, 1, 1)
# A call of each function that returns something, and the arguments that it is passed.
CALLS = {
    "base.rows": [
        ("is_row", ROW), ("sizes", ROW, 4), ("spread", ROW, 4), ("is_level", ROW, 3), ("classes", ROW, 4), ("row_of", ((2,), (0, 1))),
        ("level_sizes", 7, 3), ("exchanged", ROW, 3, 0, 2), ("renamed", (3, 1, 3)), ("are_alike", ROW, ROW),
    ],
    "base.joined": [
        ("ring", 5), ("parted", (3, 3)), ("tree", (0, 0)), ("rearranged", RING, (1, 0, 2, 3, 4)), ("pieces", PAIRS), ("sides", SIDES),
        ("odd_ring", RING), ("is_odd_ring", RING, (0, 1, 2, 3, 4)), ("greatest_apart", STAR), ("greatest_clique", PAIRS),
    ],
    "hue.judged": [
        ("is_colouring", RING, 3, ROW), ("is_level_colouring", RING, 3, ROW), ("clashes", RING, (0, 0, 1, 0, 0)), ("movable", RING, 4, ROW, 1),
        ("moved", RING, 3, ROW, 1, 2), ("piece_of", RING, 3, ROW, 0, 1), ("piece_exchanged", RING, 3, ROW, 4, 1), ("greedy", RING, (4, 3, 2, 1, 0)),
    ],
    "hue.chains": [
        ("links", RING, 4, ROW), ("chain", RING, 4, ROW, 0, 3), ("is_chain", RING, 4, ROW, 0, 3, ((0, 3),)), ("closed_set", STAR, 2, WIDE, 1, 0),
        ("is_closed_set", STAR, 2, WIDE, 0, (0,)), ("reaching", STAR, 2, WIDE, 0), ("shifted", RING, 4, ROW, ((0, 3),)), ("evened", STAR, 6, WIDE),
        ("shifted_by", STAR, 6, WIDE, ()),
    ],
    "level.finding": [
        ("level_colouring", RING, 3), ("has_level", SIDES, 3), ("level_paper", SIDES, 3), ("is_level_paper", RING, 3, ("colouring", ROW)),
        ("level_numbers", SIDES), ("fewest_level", SIDES), ("level_from", SIDES), ("level_again", RING, 3, (0, 0, 1, 1, 2)), ("recoloured", ROW, ROW),
    ],
    "level.bars": [
        ("is_bar", PAIRS, 2, ("clique", (0, 1, 2))), ("clique_bar", PAIRS, 2), ("place_bar", STAR, 3), ("cases_bar", SIDES, 3), ("bar", SIDES, 3),
    ],
    "level.exact": [
        ("sized_colouring", STAR, (1, 5)), ("set_colouring", STAR, 4, {1: 2, 0: 3}), ("list_colouring", Web(2), ((0, 1), (0,)), 1),
        ("count_colourings", RING, 3), ("count_level", RING, 3),
    ],
    "level.closed": [
        ("is_tree", STAR), ("forest_apart", STAR), ("tree_has_level", STAR, 3), ("parted_has_level", (3, 3), 4), ("parted_level", (3, 3), 4),
        ("is_parting", (3, 3), 4, ((1, 2), (2, 1))), ("path_has_level", 9, 2), ("ring_has_level", 9, 2),
    ],
    "ties.rounds": [
        ("rounds", RING, 3), ("is_rounds", RING, 3, LOTTED), ("way_of", RING, LOTTED, 0, 1, (2, 3)), ("way_exchanged", RING, LOTTED, 0, 2, (0, 4)),
        ("evened_rounds", RING, LOTTED),
    ],
    "group.weights": [
        ("grouped_colouring", RING, ((0, 1), (2, 3), (4,)), 4), ("is_grouped", RING, ((0, 1, 2, 3, 4),), 5, ROW), ("weight_spread", (5, 1, 3), 2, (0, 1, 1)),
        ("weighted", RING, (5, 1, 3, 3, 8), 3), ("is_weighted", RING, (5, 1, 3, 3, 8), 3, ROW), ("weight_groups", (5, 1, 3, 3, 8), 2),
    ],
    "group.laid": [
        ("common_ties", RING, RING, (0, 1, 2, 3, 4)), ("improved", RING, RING, (0, 1, 2, 3, 4)), ("swapped", RING, RING, (0, 1, 2, 3, 4), (1, 2)),
        ("laid", RING, RING), ("is_laid", RING, RING, (0, 2, 4, 1, 3)),
    ],
    "text.formats": [
        ("write_web", RING), ("write_row", ROW), ("write_chain", ((3, 1), (0, 2))), ("write_rounds", LOTTED), ("read_web", "web 3\ntie 0 1"),
        ("read_row", "row 0 1"), ("read_chain", "move 0 1"), ("read_rounds", "round 0-1 2-3\nround -"),
    ],
    "level.promised": [
        ("thickness", SIDES), ("thin_order", STAR, 1), ("thick_core", SIDES, 2), ("is_thin_order", STAR, 1, (0, 1, 2, 3, 4, 5)),
        ("is_thick_core", PAIRS, 1, (3, 4, 5)), ("tie_sum", STAR), ("promised_from", STAR), ("odd_shape", SIDES), ("is_odd_shape", RING, ("ring", (0, 1, 2, 3, 4))),
        ("has_level_at_most", RING),
    ],
    "hue.ways": [
        ("walked", RING, 3, ROW, ((1, 2),)), ("way", RING, 4, ROW, (1, 0, 1, 0, 2)), ("is_way", RING, 3, ROW, ROW, ()),
        ("closed_class", RING, 3, ROW, (1, 0, 1, 0, 2)), ("is_closed_class", RING, 3, ()), ("classes_of", RING, 3), ("is_frozen", RING, 3, ROW),
    ],
}


def module_of(name):
    return importlib.import_module(f"levelhues.{name}")


def every_call():
    """Each call of the table, as a function and its arguments."""
    return [(getattr(module_of(name), called[0]), called[1:]) for name, calls in CALLS.items() for called in calls]


def shown(call):
    """A function as the table of the interface shows it."""
    return call.__name__ + str(inspect.signature(call)).replace(" ", "")


def parts_of(value):
    """A value and all that is within it."""
    yield value
    if isinstance(value, (tuple, list)):
        for item in value:
            yield from parts_of(item)
    if isinstance(value, dict):
        for key in value:
            yield from parts_of(key)
            yield from parts_of(value[key])


class InterfaceTest(Case):
    def test_functions_and_constants(self):
        for name, (constants, functions) in INTERFACE.items():
            module = module_of(name)
            for constant, value in constants.items():
                self.assert_same(getattr(module, constant), value)
            for wanted in functions.split():
                with self.subTest(module=name, function=wanted):
                    call = getattr(module, wanted.partition("(")[0])
                    self.assertEqual(shown(call), wanted)
                    self.assertEqual(call.__module__, module.__name__)

    def test_classes(self):
        for made, name in ((Web, "base.webs"), (Plan, "live.plan")):
            self.assertEqual(made.__module__, f"levelhues.{name}")
            for wanted in METHODS[made].split():
                with self.subTest(made=made, method=wanted):
                    method = vars(made)[wanted.partition("(")[0]]
                    self.assertEqual(shown(method).replace("(self,", "(").replace("(self)", "()"), wanted)
            for name in PROPERTIES[made]:
                self.assertIsInstance(vars(made)[name], property)
            for name in SIGNS[made]:
                self.assertIn(name, vars(made))
        self.assertEqual([shown(vars(Web)[name].__func__) for name in ("path", "full")], ["path(cls,size)", "full(cls,size)"])
        self.assertEqual([str(inspect.signature(made)) for made in (Web, Plan)], ["(size, ties=())", "(people)"])

    def test_errors(self):
        for name, base in ERRORS.items():
            self.assertEqual(vars(errors)[name].__bases__, (base,))
            self.assertEqual(vars(errors)[name].__module__, "levelhues.errors")


class ConventionsTest(Case):
    def test_each_function_is_among_the_calls(self):
        for name, (_, functions) in INTERFACE.items():
            told = [wanted.partition("(")[0] for wanted in functions.split()]
            self.assertEqual([wanted for wanted in told if wanted != "colourings"], [called[0] for called in CALLS.get(name, [])])

    def test_arguments_stay_and_equal_calls_have_equal_results(self):
        for call, arguments in every_call():
            with self.subTest(call=call.__name__):
                before = shape(arguments)
                first = call(*arguments)
                again = call(*arguments)
                self.assertEqual(shape(arguments), before)
                self.assertEqual(shape(first), shape(again))

    def test_sequences_are_tuples_and_keys_ascend(self):
        for call, arguments in every_call():
            with self.subTest(call=call.__name__):
                result = call(*arguments)
                self.assertIsNotNone(result)
                for value in parts_of(result):
                    self.assertIn(type(value), (int, bool, str, tuple, dict, Web))
                    if type(value) is dict:
                        self.assertTrue(ascends(list(value)))

    def test_judges_take_every_value(self):
        for call, arguments in every_call():
            if call.__name__.startswith("is_") and "value" in inspect.signature(call).parameters:
                self.assertIs(type(call(*arguments)), bool)
                for value in any_values():
                    with self.subTest(call=call.__name__, value=repr(value)):
                        self.assertIs(type(call(*arguments[:-1], value)), bool)
        for value in any_values():
            for known in (RING, Plan(1)):
                self.assertIs(type(value in known), bool)
                self.assertIs(type(known == value), bool)
                self.assertIs(known != value, not known == value)
            self.assertIs(type(RING.is_apart(value)), bool)
            self.assertIs(type(RING.is_clique(value)), bool)

    def test_the_first_error_that_applies(self):
        for call, arguments in every_call():
            names = list(inspect.signature(call).parameters)
            # All arguments are wrong at once: the first one tells.
            if names[0] in ("web", "one"):
                with self.subTest(call=call.__name__):
                    self.assert_raises(errors.InvalidWeb, call, *[None] * len(arguments))
            if names[:2] in (["web", "hues"], ["web", "number"]):
                with self.subTest(call=call.__name__):
                    self.assert_keeps(InvalidNumber, 1001, call, arguments[0], 1001, *[None] * (len(arguments) - 2))

    def test_webs_with_up_to_twenty_places_can_be_passed(self):
        for web in (BARE, FULL, LOTS, TRIANGLES):
            every = tuple(range(20))
            self.assertIs(is_colouring(web, 20, every), True)
            self.assertIs(is_level_colouring(web, 20, level_colouring(web, 20)), True)
            self.assertIs(is_closed_class(web, 20, ()), True)

    def test_a_generator_raises_when_its_first_value_is_asked_for(self):
        rows = colourings(None, 0)
        self.assert_raises(errors.InvalidWeb, next, rows)

    def test_what_can_be_iterated(self):
        self.assert_same([list(RING), list(Plan(1))], [list(RING.ties), []])
        for value in (Plan(1).attempt(), InvalidNumber(0)):
            with self.assertRaises(TypeError):
                iter(value)


class MainPromiseTest(Case):
    def test_level_colouring_or_bar(self):
        for web in [*all_webs(4), *all_webs(5)[-1024::17], RING, STAR, SIDES, PAIRS]:
            for hues in range(1, 8):
                row, paper = level_colouring(web, hues), bar(web, hues)
                self.assertIs(row is None, paper is not None)
                self.assertIs(row is not None, plain_has_level(web, hues))
                self.assertTrue(row is not None or hues <= web.most)
                kind, value = level_paper(web, hues)
                if row is None:
                    self.assertEqual(kind, "bar")
                    self.assertIs(is_bar(web, hues, value), True)
                else:
                    self.assertEqual(kind, "colouring")
                    self.assertIs(is_level_colouring(web, hues, value), True)

    def test_more_hues_than_the_greatest_degree(self):
        for web in [*some_webs(201, 60, 6, 20), BARE, FULL, LOTS, TRIANGLES]:
            for hues in range(max(web.most, promised_from(web) - 1) + 1, 21):
                self.assertIs(is_level_colouring(web, hues, level_colouring(web, hues)), True)

    def test_what_is_not_true(self):
        # With one hue more there need be none; a colouring need not become a level one; no clique need bar it.
        self.assert_same([has_level(SIDES, 2), has_level(SIDES, 3), level_numbers(SIDES)], [True, False, (2, 4, 5, 6)])
        self.assertTrue(all_colourings(STAR, 2) and not level_colourings(STAR, 2))
        self.assert_same([has_level(STAR, 2), len(greatest_clique(STAR))], [False, 2])
        # Chains from greater to lesser hues need not make a colouring level, even if there are more hues than ties.
        stuck = []
        for web in [web for web in all_webs(5)[-1024:] if web.most == 2] + [SIDES]:
            for row in all_colourings(web, web.most + 1):
                if not is_level_colouring(web, web.most + 1, shifted_by(web, web.most + 1, row, evened(web, web.most + 1, row))):
                    stuck.append((web, row))
        self.assertTrue(stuck)


if __name__ == "__main__":
    unittest.main()
