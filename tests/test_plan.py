"""Tests of duty plans: long histories of changes, each held against a search for a level plan."""

import itertools
import random
import unittest

from levelhues.base.webs import Web
from levelhues.errors import HueError, InvalidNumber, InvalidOperation, NothingToUndo, Refused, TooMany, UnknownName
from levelhues.live import plan as module
from levelhues.live.plan import Plan
from samples import HUGE, RING, SIDES, Case, any_values, but, wrong_numbers

TEN = ("a", "b", "bb", "c", "d", "zz", "abcdefgh", "e", "f", "zzzzzzzz")
NAMES = (*TEN, "g", "h", "ab", "y")
WRONG_NAMES = [
    "", "A", "abcdefghi", "a b", "a1", " a", "a ", "a\n", "\n", "a-b", "Abc", "abC", "0", "~", "a_", *[value for value in any_values() if not isinstance(value, str)],
    "0", "web 5", "a\nb", "~" * 400,
]


def told(plan):
    """All that can be seen of a plan."""
    return (plan.people, tuple(plan.works.items()), plan.clashes)


def is_right(people, works, clashes):
    """Tell whether the works that clash have unlike people, and any two people equally many works, or one apart."""
    many = [list(works.values()).count(person) for person in range(people)]
    fits = all(type(person) is int and 0 <= person < people for person in works.values())
    return fits and all(works[one] != works[other] for one, other in clashes) and max(many) - min(many) <= 1


def has_level_plan(people, names, clashes):
    """Search for a level plan; people without a work as yet are alike."""
    names = sorted(names, key=lambda name: -sum(name in pair for pair in clashes))
    least, greater = divmod(len(names), people)
    near = {name: {other for pair in clashes if name in pair for other in pair if other != name} for name in names}

    def search(at, works, many):
        if at == len(names):
            return True
        barred = {works[other] for other in near[names[at]] if other in works}
        for person in range(min(people, max(works.values(), default=-1) + 2)):
            if person not in barred and many[person] <= least:
                more = [*many[:person], many[person] + 1, *many[person + 1:]]
                fits = sum(load > least for load in more) <= greater
                if fits and search(at + 1, {**works, names[at]: person}, more):
                    return True
        return False

    return search(0, {}, [0] * people)


def stays(people, works, clashes, name=None):
    """Tell whether a plan stays right and level if no work that was there is moved."""
    choices = [{}] if name is None else [{name: person} for person in range(people)]
    return any(is_right(people, {**works, **choice}, clashes) for choice in choices)


def filled(people, names, clashes=()):
    """A plan with these works and clashes, and no change refused on the way to it."""
    plan = Plan(people)
    for name in names:
        plan.add_work(name)
    for one, other in clashes:
        plan.clash(one, other)
    return plan


class PlanCase(Case):
    def assert_plan(self, plan, people, names, clashes):
        """Check everything that can be seen of a plan that should have these people, works and clashes."""
        names, clashes = tuple(sorted(names)), tuple(sorted(clashes))
        self.assert_same(plan.people, people)
        works = plan.works
        self.assertIs(type(works), dict)
        self.assertEqual(list(works), list(names))
        self.assertTrue(is_right(people, works, clashes), (people, works, clashes))
        self.assert_same(plan.clashes, clashes)
        self.assert_same(plan.loads, tuple(list(works.values()).count(person) for person in range(people)))
        self.assert_same([list(plan), len(plan)], [list(names), len(names)])
        self.assert_same(str(plan), f"plan of {len(names)} works, {len(clashes)} clashes, {people} people")
        for person in range(people):
            self.assert_same(plan.of(person), tuple(name for name in names if works[name] == person))
        for name in names:
            self.assert_same([plan[name], name in plan], [works[name], True])
        ties = tuple(sorted((names.index(one), names.index(other)) for one, other in clashes))
        self.assert_same(plan.web, Web(len(names), ties) if names else None)

    def assert_change(self, plan, call, people, names, clashes, new=None):
        """Check a change that leads to these people, works and clashes, or is refused; tell whether it was made."""
        before, works = told(plan), plan.works
        many = plan.undo(many=0)
        clashes = tuple(sorted(clashes))
        if not has_level_plan(people, names, clashes):
            self.assert_keeps(Refused, "level", call)
            self.assertEqual(told(plan), before)
            self.assert_same(plan.undo(many=0), many)
            return False
        moved = call()
        self.assert_plan(plan, people, names, clashes)
        kept = {name: person for name, person in works.items() if name in names}
        self.assert_same(moved, tuple(name for name in sorted(kept) if plan[name] != kept[name]))
        if stays(people, kept, clashes, new):
            self.assert_same(moved, ())
        self.assert_same(plan.undo(many=0), many + 1)
        return True


class ChangesTest(PlanCase):
    def add(self, plan, name, near):
        pairs = [tuple(sorted((name, other))) for other in near]
        call = (lambda: plan.add_work(name, near)) if near else (lambda: plan.add_work(name))
        return self.assert_change(plan, call, plan.people, [*plan, name], [*plan.clashes, *pairs], name)

    def drop(self, plan, name):
        pairs = [pair for pair in plan.clashes if name not in pair]
        return self.assert_change(plan, lambda: plan.drop_work(name), plan.people, [other for other in plan if other != name], pairs)

    def clash(self, plan, one, other):
        pairs = [*plan.clashes, tuple(sorted((one, other)))]
        return self.assert_change(plan, lambda: plan.clash(one, other), plan.people, list(plan), pairs)

    def unclash(self, plan, one, other):
        pairs = [pair for pair in plan.clashes if pair != tuple(sorted((one, other)))]
        before = plan.works
        self.assertTrue(self.assert_change(plan, lambda: plan.unclash(one, other), plan.people, list(plan), pairs))
        self.assertEqual(plan.works, before)

    def any_change(self, chance, plan, dense):
        """Try any change that fits, and return whether one was made."""
        names, pairs = list(plan), list(plan.clashes)
        kind = chance.choice(("add", "add", "drop", "clash", "clash", "unclash", "hire", "dismiss"))
        if kind == "add" and len(names) < 10:
            name = chance.choice([name for name in NAMES if name not in names])
            return self.add(plan, name, tuple(sorted(other for other in names if chance.random() < dense)))
        if kind == "drop" and names:
            return self.drop(plan, chance.choice(names))
        free = [pair for pair in itertools.combinations(names, 2) if pair not in pairs]
        if kind == "clash" and free:
            one, other = chance.sample(chance.choice(free), 2)
            return self.clash(plan, one, other)
        if kind == "unclash" and pairs:
            self.unclash(plan, *chance.sample(chance.choice(pairs), 2))
            return True
        if kind == "hire" and plan.people < 10:
            return self.assert_change(plan, plan.hire, plan.people + 1, names, pairs)
        if kind == "dismiss" and plan.people > 1:
            return self.dismiss(plan)
        return False

    def dismiss(self, plan):
        last = plan.people - 1
        without = plan.loads[last] == 0
        works = plan.works
        made = self.assert_change(plan, plan.dismiss, last, list(plan), plan.clashes)
        if made and without and is_right(last, works, plan.clashes):
            self.assertEqual(plan.works, works)
        return made

    def test_long_histories(self):
        for seed, people, dense in [(at, 1 + at % 10, (0.1, 0.3, 0.6)[at % 3]) for at in range(20)]:
            chance = random.Random(seed)
            plan = Plan(people)
            self.assert_plan(plan, people, (), ())
            line, at = [told(plan)], 0
            for _ in range(150):
                if self.any_change(chance, plan, dense):
                    line, at = [*line[:at + 1], told(plan)], at + 1
                self.assertEqual(told(plan), line[at])
                if chance.random() < 0.25:
                    at = self.go_back_and_on(chance, plan, line, at)

    def go_back_and_on(self, chance, plan, line, at):
        """Take back changes and do them again, many at once and one by one; return where the plan then stands."""
        back = chance.randint(0, at)
        self.assert_same(plan.undo(many=back), at - back)
        at = at - back
        self.assertEqual(told(plan), line[at])
        on = chance.randint(0, len(line) - 1 - at)
        self.assert_same(plan.redo(many=on), at + on)
        at = at + on
        self.assertEqual(told(plan), line[at])
        left = len(line) - 1 - at
        self.assert_keeps(NothingToUndo, left + 1, lambda: plan.redo(many=left + 1))
        self.assert_keeps(NothingToUndo, at + 1, lambda: plan.undo(many=at + 1))
        for _ in range(chance.randint(0, left)):
            self.assert_same(plan.redo(), at + 1)
            at = at + 1
            self.assertEqual(told(plan), line[at])
        return at

    def test_no_change_is_refused_with_more_people_than_clashes_of_a_work(self):
        for seed in range(12):
            chance = random.Random(seed)
            plan = Plan(4)
            for _ in range(80):
                near = {name: sum(name in pair for pair in plan.clashes) for name in plan}
                low = [name for name in plan if near[name] < 3]
                if len(plan) < 10 and chance.random() < 0.4:
                    name = chance.choice([name for name in NAMES if name not in plan])
                    self.assertTrue(self.add(plan, name, tuple(sorted(chance.sample(low, min(len(low), chance.randint(0, 3)))))))
                elif len(plan) and chance.random() < 0.3:
                    self.assertTrue(self.drop(plan, chance.choice(list(plan))))
                else:
                    free = [pair for pair in itertools.combinations(low, 2) if pair not in plan.clashes]
                    if free:
                        self.assertTrue(self.clash(plan, *chance.choice(free)))

    def test_refused_with_a_level_plan_before_and_behind(self):
        # Three works that each clash with three others: two people, and four, but not three.
        plan = Plan(2)
        for one, other in zip("abc", "xyz"):
            plan.add_work(one)
            plan.add_work(other)
            plan.clash(one, other)
        for pair in itertools.product("abc", "xyz"):
            if pair not in plan.clashes:
                self.assertTrue(self.clash(plan, *pair))
        self.assertTrue(plan.web == SIDES)
        before = told(plan)
        self.assert_keeps(Refused, "level", plan.hire)
        self.assertEqual(told(plan), before)
        self.assertTrue(self.drop(plan, "z"))
        self.assertTrue(self.assert_change(plan, plan.hire, 3, "abcxy", plan.clashes))
        self.assertFalse(self.add(plan, "z", ("a", "b", "c")))
        self.assertTrue(self.assert_change(plan, plan.hire, 4, "abcxy", plan.clashes))
        self.assertTrue(self.add(plan, "z", ("a", "b", "c")))
        self.assert_keeps(Refused, "level", plan.dismiss)
        self.assertEqual(plan.people, 4)

    def test_dropping_can_be_refused(self):
        # The one who has `b` can have no work but the one without a clash, and without it two works less than the other.
        plan = Plan(2)
        for name in ("a", "b", "c", "d"):
            self.assertTrue(self.add(plan, name, ("b",) if name == "c" else ()))
        self.assertTrue(self.clash(plan, "b", "d"))
        self.assertTrue(self.drop(plan, "a"))
        plan.undo()
        self.assertTrue(self.add(plan, "e", ("b",)))
        self.assertFalse(self.drop(plan, "a"))
        self.assertFalse(self.clash(plan, "a", "b"))
        self.assertTrue(self.drop(plan, "b"))

    def test_all_clashes_and_one_work_each(self):
        plan = Plan(10)
        for at, name in enumerate(TEN):
            self.assertTrue(self.add(plan, name, tuple(sorted(TEN[:at]))))
        self.assertEqual(plan.loads, (1,) * 10)
        self.assertTrue(plan.web == Web.full(10))
        self.assert_keeps(Refused, "level", plan.dismiss)
        self.assert_keeps(TooMany, 10, plan.hire)
        for one, other in itertools.combinations(sorted(TEN), 2):
            self.unclash(plan, other, one)
        for people in range(9, 0, -1):
            self.assertTrue(self.dismiss(plan))
        self.assertEqual(plan.loads, (10,))
        self.assert_keeps(Refused, "last", plan.dismiss)
        self.assertFalse(self.clash(plan, "a", "b"))
        self.assertEqual(plan.undo(many=10 + 45 + 9), 0)
        self.assert_plan(plan, 10, (), ())

    def test_the_least_work_is_moved(self):
        plan = filled(2, ("a", "b", "c", "d"))
        pair = [name for name in plan if plan[name] == plan["a"]]
        moved = plan.clash(*pair)
        self.assertEqual(len(moved), 2)
        plan = filled(3, ("a", "b"))
        self.assert_same(plan.hire(), ())
        self.assert_same(plan.dismiss(), ())
        plan = filled(2, ("a", "b", "c", "d"))
        self.assertEqual(len(plan.hire()), 1)
        plan = filled(1, TEN)
        self.assertEqual(len(plan.hire()), 5)
        last = plan.of(1)
        self.assert_same(plan.dismiss(), last)


class ErrorsTest(PlanCase):
    def setUp(self):
        self.plan = filled(2, ("a", "b", "c"), [("a", "b")])
        self.before = told(self.plan)

    def tearDown(self):
        self.assertEqual(told(self.plan), self.before)
        self.assertEqual(self.plan.undo(many=0), 4)

    def test_made_with_wrong_people(self):
        self.assertEqual([module.MAX_WORKS, module.MAX_PEOPLE], [10, 10])
        self.assert_order(Plan, (2, wrong_numbers(1, 10), InvalidNumber))

    def test_add_work(self):
        wrong_clashes = [
            *but(any_values(), (), ("level",)), "a", ["a"], ("a", "a"), ("b", "a"), ("A",), ("a", ""), ("a", 1), ("a", None), ("a", ("b",)), ("a", "abcdefghi"), {"a": 0}, ("a", True), ("a b",),
        ]
        for name in WRONG_NAMES:
            for behind in ((), None, ("x",)):
                self.assert_raises(InvalidOperation, self.plan.add_work, name, behind)
        for value in wrong_clashes:
            for name in ("d", "a"):
                self.assert_raises(InvalidOperation, self.plan.add_work, name, value)
        self.assert_raises(InvalidOperation, self.plan.add_work, "a")
        self.assert_raises(InvalidOperation, self.plan.add_work, "a", ("x",))
        self.assert_keeps(UnknownName, "x", self.plan.add_work, "d", ("a", "x", "y"))
        self.assert_keeps(UnknownName, "d", self.plan.add_work, "d", ("d",))
        full = filled(2, TEN)
        self.assert_keeps(TooMany, 10, full.add_work, "q")
        self.assert_keeps(TooMany, 10, full.add_work, "q", ("a", "b"))
        self.assert_keeps(UnknownName, "q", full.add_work, "q", ("a", "q"))
        self.assert_raises(InvalidOperation, full.add_work, "a", ("q",))
        self.assert_raises(InvalidOperation, full.add_work, "Q", ("q",))
        self.assert_keeps(Refused, "level", self.plan.add_work, "d", ("a", "b"))

    def test_names_that_are_right(self):
        for name in ("z", "zzzzzzzz", "abcdefgh", "q", "ab"):
            twin = self.plan.twin()
            twin.add_work(name)
            self.assertIn(name, twin)

    def test_works_that_are_not_there(self):
        wrong = ["x", "aa", "ab", "", "A", *any_values(), HUGE]
        for value in wrong:
            self.assert_keeps(UnknownName, value, self.plan.drop_work, value)
            self.assert_keeps(UnknownName, value, lambda name: self.plan[name], value)
            for call in (self.plan.clash, self.plan.unclash):
                self.assert_keeps(UnknownName, value, call, value, "a")
                self.assert_keeps(UnknownName, value, call, value, "y")
                self.assert_keeps(UnknownName, value, call, value, value)
                self.assert_keeps(UnknownName, value, call, "a", value)
            self.assertIs(value in self.plan, False)
        self.assertIs("a" in self.plan, True)

    def test_clash_and_unclash(self):
        for one, other in (("a", "a"), ("a", "b"), ("b", "a"), ("c", "c")):
            self.assert_raises(InvalidOperation, self.plan.clash, one, other)
        for one, other in (("a", "c"), ("c", "a"), ("a", "a"), ("c", "b")):
            self.assert_raises(InvalidOperation, self.plan.unclash, one, other)
        twin = self.plan.twin()
        twin.clash("b", "c")
        self.assert_keeps(Refused, "level", twin.clash, "a", "c")

    def test_people(self):
        for value in wrong_numbers(0, 1):
            self.assert_keeps(InvalidNumber, value, self.plan.of, value)
        self.assert_keeps(Refused, "last", Plan(1).dismiss)
        self.assert_keeps(TooMany, 10, Plan(10).hire)
        self.assert_keeps(TooMany, 10, filled(10, TEN).hire)

    def test_many(self):
        for call in (self.plan.undo, self.plan.redo):
            for value in [-1, -HUGE, *[value for value in any_values() if type(value) is not int]]:
                self.assert_keeps(InvalidNumber, value, lambda many: call(many=many), value)
        self.assert_keeps(NothingToUndo, 5, lambda: self.plan.undo(many=5))
        self.assert_keeps(NothingToUndo, HUGE, lambda: self.plan.undo(many=HUGE))
        self.assert_keeps(NothingToUndo, 1, self.plan.redo)
        self.assert_keeps(NothingToUndo, HUGE, lambda: self.plan.redo(many=HUGE))
        self.assert_same(self.plan.redo(many=0), 4)
        self.assert_keeps(NothingToUndo, 1, Plan(1).undo)
        self.assert_same(Plan(1).undo(many=0), 0)


class UndoTest(PlanCase):
    def test_one_by_one(self):
        plan = filled(2, ("a", "b"), [("a", "b")])
        self.assert_same([plan.undo(), plan.clashes], [2, ()])
        self.assert_same([plan.undo(), list(plan)], [1, ["a"]])
        self.assert_same([plan.redo(), list(plan)], [2, ["a", "b"]])
        self.assert_same([plan.redo(many=1), plan.clashes], [3, (("a", "b"),)])
        self.assert_same([plan.undo(many=3), list(plan), plan.loads], [0, [], (0, 0)])
        self.assert_same([plan.redo(many=3), plan.clashes], [3, (("a", "b"),)])

    def test_a_change_ends_what_can_be_done_again(self):
        plan = filled(2, ("a", "b", "c"))
        plan.undo(many=2)
        self.assert_same(plan.redo(many=0), 1)
        # A change that is refused, or an error, is no change.
        self.assert_raises(InvalidOperation, plan.add_work, "a")
        self.assert_keeps(UnknownName, "x", plan.drop_work, "x")
        twin = plan.twin()
        twin.dismiss()
        self.assert_keeps(NothingToUndo, 1, twin.redo)
        self.assert_same([plan.redo(), plan.redo()], [2, 3])
        plan.undo()
        plan.add_work("d", ("a",))
        self.assert_keeps(NothingToUndo, 1, plan.redo)
        self.assert_same([plan.undo(many=0), list(plan)], [3, ["a", "b", "d"]])

    def test_a_refused_change_leaves_what_can_be_done_again(self):
        plan = filled(1, ("a", "b"))
        plan.hire()
        plan.undo()
        self.assert_keeps(Refused, "level", plan.clash, "a", "b")
        self.assert_keeps(Refused, "last", plan.dismiss)
        self.assert_same(plan.redo(), 3)
        self.assert_same(plan.people, 2)

    def test_changes_that_move_nothing_are_changes(self):
        plan = filled(3, ("a", "b"), [("a", "b")])
        self.assert_same([plan.unclash("a", "b"), plan.hire(), plan.dismiss()], [(), (), ()])
        self.assert_same([plan.undo(), plan.undo(), plan.undo(), plan.clashes], [5, 4, 3, (("a", "b"),)])

    def test_people_as_they_were(self):
        # A change taken back gives each work to the one who had it, not only to anyone.
        for seed in range(30):
            chance = random.Random(seed)
            plan = filled(chance.randint(1, 4), chance.sample(TEN, chance.randint(2, 10)))
            before = plan.works
            pairs = list(itertools.combinations(plan, 2))
            chance.shuffle(pairs)
            for one, other in pairs:
                try:
                    if plan.clash(one, other):
                        break
                except Refused:
                    pass
            behind, many = plan.works, plan.undo(many=0)
            plan.undo(many=len(plan.clashes))
            self.assertEqual(plan.works, before)
            plan.redo(many=many - plan.undo(many=0))
            self.assertEqual(plan.works, behind)


class BlocksTest(PlanCase):
    def test_a_block_leaves_the_plan_as_it_was(self):
        plan = filled(2, ("a", "b", "c"))
        plan.undo()
        before = told(plan)
        with plan.attempt() as same:
            self.assertIs(same, plan)
            plan.add_work("x")
            plan.clash("x", "a")
            plan.hire()
            plan.undo(many=5)
            self.assertEqual(list(plan), [])
            plan.hire()
        self.assertEqual(told(plan), before)
        self.assert_same([plan.undo(many=0), plan.redo(), list(plan)], [2, 3, ["a", "b", "c"]])
        self.assert_keeps(NothingToUndo, 1, plan.redo)
        self.assert_same([plan.undo(many=3), plan.redo(many=3)], [0, 3])

    def test_a_block_that_an_error_leaves(self):
        plan = filled(2, ("a", "b"))
        plan.undo()
        before = told(plan)
        for error in (HueError("told"), Refused("own"), KeyboardInterrupt(), StopIteration()):
            with self.assertRaises(type(error)) as caught:
                with plan.attempt():
                    plan.add_work("y")
                    plan.undo(many=2)
                    raise error
            self.assertIs(caught.exception, error)
            self.assertEqual(told(plan), before)
            self.assert_same([plan.redo(), plan.undo()], [2, 1])
        with self.assertRaises(UnknownName) as caught:
            with plan.attempt() as same:
                same.hire()
                same.drop_work("y")
        self.assertEqual(caught.exception.name, "y")
        self.assertEqual(told(plan), before)

    def test_blocks_within_blocks(self):
        plan = filled(2, ("a",))
        outer = told(plan)
        with plan.attempt():
            plan.add_work("b")
            inner = told(plan)
            with plan.attempt() as same:
                self.assertIs(same, plan)
                plan.undo(many=2)
                with plan.attempt():
                    plan.hire()
                    plan.hire()
                self.assertEqual([plan.people, list(plan), plan.redo(many=2)], [2, [], 2])
                plan.hire()
            self.assertEqual(told(plan), inner)
            self.assert_same(plan.undo(many=0), 2)
            with self.assertRaises(TooMany):
                with plan.attempt():
                    plan.dismiss()
                    raise TooMany(1)
            self.assertEqual(told(plan), inner)
        self.assertEqual(told(plan), outer)
        self.assert_same(plan.undo(many=0), 1)
        self.assert_keeps(NothingToUndo, 1, plan.redo)

    def test_what_a_block_begins_with_is_what_is_there_then(self):
        plan = filled(2, ("a",))
        block = plan.attempt()
        plan.add_work("b")
        with block:
            plan.add_work("c")
        self.assertEqual(list(plan), ["a", "b"])
        plan.add_work("d")
        with block:
            plan.undo(many=2)
            with block as same:
                self.assertIs(same, plan)
                plan.hire()
            self.assertEqual([plan.people, list(plan)], [2, ["a"]])
        self.assertEqual(list(plan), ["a", "b", "d"])

    def test_returns_and_breaks(self):
        plan = filled(2, ("a",))

        def leave():
            with plan.attempt() as same:
                return same.add_work("b"), len(same)

        self.assert_same(leave(), ((), 2))
        for _ in range(3):
            with plan.attempt():
                plan.hire()
                break
        self.assert_same([len(plan), plan.people], [1, 2])

    def test_during(self):
        plan = filled(2, ("a", "b", "c"))
        plan.undo()
        before = told(plan)

        def call(same):
            self.assertIs(same, plan)
            same.add_work("x", ("a",))
            return [same.during(lambda inner: (inner.unclash("a", "x"), inner.people)), list(same), same.people]

        self.assert_same(plan.during(call), [((), 2), ["a", "b", "x"], 2])
        self.assertEqual(told(plan), before)
        self.assert_same(plan.redo(), 3)
        self.assertIsNone(plan.during(lambda same: None))
        self.assertIs(plan.during(lambda same: same), plan)

        def fail(same):
            same.dismiss()
            raise Refused("own")

        before = told(plan)
        self.assert_keeps(Refused, "own", plan.during, fail)
        self.assertEqual(told(plan), before)
        self.assert_same(plan.undo(many=0), 3)

    def test_histories_within_blocks(self):
        chance = random.Random(191)
        plan = filled(3, TEN[:6], [("a", "b"), ("c", "d")])
        plan.undo(many=2)
        before = told(plan)
        for _ in range(60):
            with plan.attempt():
                for _ in range(chance.randint(0, 8)):
                    try:
                        chance.choice((
                            plan.hire, plan.dismiss, plan.undo, plan.redo, lambda: plan.add_work(chance.choice(NAMES)),
                            lambda: plan.drop_work(chance.choice(NAMES)), lambda: plan.clash(*chance.sample(NAMES, 2)),
                        ))()
                    except (HueError, UnknownName, Refused, TooMany, NothingToUndo):
                        pass
            self.assertEqual(told(plan), before)
            self.assert_same([plan.undo(many=0), plan.redo(many=2), plan.undo(many=2)], [6, 8, 6])


class TwinTest(PlanCase):
    def test_equal_and_independent(self):
        plan = filled(2, ("a", "b", "c"), [("a", "c")])
        plan.undo()
        twin = plan.twin()
        self.assertIs(type(twin), Plan)
        self.assertIsNot(twin, plan)
        self.assertTrue(twin == plan)
        self.assertEqual(told(twin), told(plan))
        before = told(plan)
        twin.add_work("x")
        self.assertEqual(told(plan), before)
        self.assertFalse(twin == plan)
        self.assert_same([plan.redo(), plan.clashes], [4, (("a", "c"),)])
        self.assert_keeps(NothingToUndo, 1, twin.redo)
        self.assert_same([twin.undo(many=4), twin.undo(many=0), plan.undo(many=0)], [0, 0, 4])

    def test_the_same_changes(self):
        plan = filled(3, TEN)
        plan.undo(many=4)
        twin = plan.twin()
        self.assert_same([twin.redo(many=4), list(twin)], [10, sorted(TEN)])
        self.assert_same([plan.undo(many=0), plan.undo(many=6), plan.redo(many=10)], [6, 0, 10])
        self.assertTrue(plan == twin)
        empty = Plan(1).twin()
        self.assert_plan(empty, 1, (), ())
        self.assert_keeps(NothingToUndo, 1, empty.undo)

    def test_in_a_block(self):
        plan = filled(2, ("a",))
        with plan.attempt():
            plan.add_work("b")
            twin = plan.twin()
        self.assert_same([list(plan), list(twin), twin.undo(), list(twin)], [["a"], ["a", "b"], 1, ["a"]])
        with plan.attempt():
            twin.add_work("q")
        self.assertEqual(list(twin), ["a", "q"])


class LooksTest(PlanCase):
    def test_equal_plans(self):
        plan = filled(2, ("a", "b"), [("a", "b")])
        other = Plan(2)
        other.add_work("b")
        other.add_work("a", ("b",))
        swapped = filled(2, ("b", "a"), [("b", "a")])
        self.assertEqual([plan["a"], swapped["b"]], [other["b"], plan["a"]])
        self.assertFalse(plan == other)
        self.assertTrue(other == swapped)
        self.assertIs(plan != other, True)
        self.assertIs(plan == filled(2, ("a", "b"), [("a", "b")]), True)
        self.assertIs(plan != filled(2, ("a", "b"), [("a", "b")]), False)
        self.assertIs(plan == filled(2, ("a", "b")), False)
        self.assertIs(filled(3, ("a", "b")) == filled(4, ("a", "b")), False)
        self.assertIs(Plan(1) == Plan(2), False)
        self.assertIs(Plan(2) == Plan(2), True)
        # What can be taken back does not count.
        longer = filled(2, ("a", "b"))
        longer.clash("a", "b")
        longer.undo()
        self.assertIs(longer == filled(2, ("a", "b")), True)
        for value in any_values():
            self.assertIs(filled(2, ("q",)) == value, False)
            self.assertIs(filled(2, ("q",)) != value, True)
            self.assertIs(value == filled(2, ("q",)), False)

    def test_what_is_returned_gives_no_access(self):
        plan = filled(2, ("a", "b"), [("a", "b")])
        before = told(plan)
        works = plan.works
        works["a"] = 7
        works["z"] = 0
        del works["b"]
        self.assertEqual(told(plan), before)
        self.assertIsNot(plan.works, plan.works)
        near = ("a", "b")
        plan.hire()
        plan.add_work("c", near)
        self.assertEqual(near, ("a", "b"))

    def test_iterating_goes_on_as_it_began(self):
        plan = filled(3, ("b", "a", "d"))
        names = iter(plan)
        self.assertEqual(next(names), "a")
        plan.drop_work("b")
        plan.add_work("c")
        self.assertEqual(list(names), ["b", "d"])
        self.assertEqual(list(plan), ["a", "c", "d"])
        seen = []
        for name in plan:
            seen.append(name)
            plan.drop_work(name)
        self.assertEqual([seen, list(plan)], [["a", "c", "d"], []])
        names = iter(plan)
        plan.undo(many=3)
        self.assertEqual(list(names), [])
        with self.assertRaises(TypeError):
            iter(plan.attempt())

    def test_empty_plans(self):
        for people in range(1, 11):
            plan = Plan(people)
            self.assert_plan(plan, people, (), ())
            self.assert_same([plan.web, plan.loads, plan.works, plan.clashes, len(plan)], [None, (0,) * people, {}, (), 0])
            self.assert_same(plan.of(people - 1), ())
            self.assert_keeps(InvalidNumber, people, plan.of, people)

    def test_as_the_document_tells(self):
        plan = Plan(2)
        self.assert_same([plan.add_work("b"), plan.add_work("a", ("b",))], [(), ()])
        self.assert_same([plan.hire(), plan.add_work("c", ("a", "b")), plan.loads], [(), (), (1, 1, 1)])
        self.assert_same([plan.undo(many=2), plan.people, str(plan)], [2, 2, "plan of 2 works, 1 clashes, 2 people"])
        self.assert_keeps(Refused, "level", plan.add_work, "c", ("a", "b"))
        self.assertTrue(plan.web == RING.part((0, 1)))


if __name__ == "__main__":
    unittest.main()
