"""Plans, [12]: which part is taken at each step, names given, one part first, what can't be planned."""

import itertools
import random
import unittest

from deducehall.errors import BadRule
from deducehall.plans import Plan, all_plans, binds, is_plan, plan, weight
from deducehall.readers import read_rule
from deducehall.rules import Rule, held, let, neg, pos
from deducehall.safety import gives, needs
from deducehall.terms import val, var


def order_of(text, sizes=None, first=None, given=()):
    return plan(read_rule(text), sizes or {}, first, given).order


class OrderTest(unittest.TestCase):
    def test_as_written_where_all_is_alike(self):
        self.assertEqual(order_of("p :- a(X), b(Y), c(Z)."), (0, 1, 2))
        self.assertEqual(order_of("p :- a(X), b(Y), c(Z).", {"a": 5, "b": 5, "c": 5}), (0, 1, 2))

    def test_tests_reckonings_and_nots_first_as_written(self):
        self.assertEqual(order_of("p :- a(X), not b(X), X < 3, Y := X + 1, c(X)."), (0, 1, 2, 3, 4))
        self.assertEqual(order_of("p :- a(X), c(X), Y := X + 1, X < 3, not b(X)."), (0, 2, 3, 4, 1))
        self.assertEqual(order_of("p :- a(X), 1 < 2, not b(_), Y := 1 + 2, not c."), (1, 2, 3, 4, 0))
        self.assertEqual(order_of("p :- Y < Z, a(X), Z := Y + 1, Y := X + 1."), (1, 3, 2, 0))

    def test_those_that_get_ready_together_as_written(self):
        self.assertEqual(order_of("p :- Y := X + 1, a(X), X < 1, b(Z)."), (1, 0, 2, 3))
        self.assertEqual(order_of("p :- X < 1, a(X), Y := X + 1, Y < 2, b(Z)."), (1, 0, 2, 3, 4))

    def test_then_parts_with_all_places_known_as_written(self):
        self.assertEqual(order_of("p :- a(X), b(X, Y), c(X).", {"b": 0, "c": 99}), (0, 2, 1))
        self.assertEqual(order_of("p :- a(X), b(X, X), c(X), d.", {"a": 0, "b": 9, "c": 1, "d": 5}), (3, 0, 1, 2))
        self.assertEqual(order_of("p :- a(X), b(1, 2, Y), c, d(7)."), (2, 3, 1, 0))

    def test_all_known_stands_ahead_of_more_places_known(self):
        self.assertEqual(order_of("p :- a(X, Y), b(X, Y, 1, Z), c(X).", {"a": 0}, None, ()), (1, 0, 2))
        self.assertEqual(order_of("p :- b(X, Y, 1, Z), c(X).", {}, None, ("X", "Y")), (1, 0))

    def test_then_the_most_places_known(self):
        self.assertEqual(order_of("p :- a(X, 1), b(1, 2, Y), c(Z)."), (1, 0, 2))
        self.assertEqual(order_of("p :- a(X), b(Y, 1).", {"a": 0, "b": 100}), (1, 0))
        self.assertEqual(order_of("p :- a(X, Y, Z, W, 1), b(1, 2, X).", {"a": 0, "b": 9}), (1, 0))
        sizes = {"a": 1, "b": 2, "c": 9, "d": 1}
        self.assertEqual(order_of("p :- a(X), b(Y), c(Y, Z, X), d(X, Z).", sizes), (0, 3, 2, 1))

    def test_then_the_fewest_rows(self):
        self.assertEqual(order_of("p :- a(X), b(Y), c(Z).", {"a": 3, "b": 2, "c": 1}), (2, 1, 0))
        self.assertEqual(order_of("p :- a(X), b(Y), c(Z).", {"a": 3, "b": 2, "c": 2}), (1, 2, 0))
        self.assertEqual(order_of("p :- a(X, 1), b(1, Y).", {"a": 3, "b": 2}), (1, 0))

    def test_a_name_without_a_size_has_no_rows(self):
        self.assertEqual(order_of("p :- a(X), b(Y).", {"a": 1}), (1, 0))

    def test_one_name_asked_twice(self):
        self.assertEqual(order_of("p :- a(X, Y), a(Y, Z).", {"a": 9}), (0, 1))
        self.assertEqual(order_of("p :- a(X, Y), a(Y, 1).", {"a": 9}), (1, 0))
        self.assertEqual(order_of("p :- a(X, X), a(X, Y), a(1, Y).", {"a": 9}), (2, 1, 0))

    def test_bare_bodies(self):
        found = plan(read_rule("p(1)."), {})
        self.assertEqual((found.order, found.given, found.shown()), ((), (), ((), ())))
        self.assertEqual(plan(read_rule("p(X)."), {}).order, ())


class GivenTest(unittest.TestCase):
    def test_names_given(self):
        self.assertEqual(order_of("p :- a(X), b(Y, Z).", {"a": 1, "b": 9}, None, ("Y",)), (1, 0))
        self.assertEqual(order_of("p :- a(X), X < Y.", {}, None, ("X", "Y")), (1, 0))
        self.assertEqual(order_of("p :- a(X), Z := X + Y, not c(X, Z).", {}, None, ["Y"]), (0, 1, 2))
        self.assertEqual(order_of("p :- X < Y.", {}, None, ("Y", "X", "W")), (0,))

    def test_given_tells_what_was_handed_in(self):
        self.assertEqual(plan(read_rule("p :- a(X)."), {}, None, ["X", "Y"]).given, ("X", "Y"))


class FirstTest(unittest.TestCase):
    def test_a_part_that_asks_for_rows(self):
        text = "p :- a(X), b(X, Y), c(Y, Z)."
        self.assertEqual(order_of(text, {"a": 1, "b": 1, "c": 1}, 0), (0, 1, 2))
        self.assertEqual(order_of(text, {"a": 1, "b": 1, "c": 1}, 1), (1, 0, 2))
        self.assertEqual(order_of(text, {"a": 1, "b": 9, "c": 1}, 2), (2, 1, 0))

    def test_first_ahead_of_what_is_ready(self):
        self.assertEqual(order_of("p :- 1 < 2, a(1), b(X, Y).", {"b": 99}, 2), (2, 0, 1))

    def test_a_not_binds_all_its_names(self):
        rule = read_rule("p :- a(X), not b(X, Y, W), c(Y, Z), X < 3.")
        self.assertEqual(plan(rule, {}, 1).order, (1, 3, 0, 2))
        self.assertEqual(sorted(binds(rule, 1)), ["W", "X", "Y"])
        self.assertEqual(plan(rule, {}, 1).known_places(0), ())
        self.assertEqual(plan(rule, {}, 1).shown(), ((1, 3, 0, 2), ((), (0, 1), (0,), (0,))))

    def test_binds(self):
        rule = read_rule("p :- a(X, 1, Y), Z := X + Y, X < Z, not b(Z, X, V).")
        self.assertEqual([sorted(binds(rule, number)) for number in range(4)], [["X", "Y"], ["Z"], [], ["V", "X", "Z"]])

    def test_first_with_names_given(self):
        self.assertEqual(order_of("p :- a(X), b(Y), Z := X + W.", {}, 0, ("W",)), (0, 2, 1))
        self.assertEqual(order_of("p :- a(X), Y < 3, Z := Y + 1.", {}, 2, ("Y",)), (2, 1, 0))


class OpenNamesTest(unittest.TestCase):
    """[8] and [13]: a not binds none of the names that are left open in it."""

    def bound(self, found):
        return [found.bound_at(step) for step in range(len(found.order) + 1)]

    def test_a_not_taken_as_it_comes_binds_none(self):
        found = plan(read_rule("h :- not p(Z, 2), 2 < X, q(1, X)."), {"p": 0, "q": 0})
        self.assertEqual(self.bound(found), [(), (), ("X",), ("X",)])
        self.assertEqual(found.shown(), ((0, 2, 1), ((1,), (0,), (0, 1))))
        found = plan(read_rule("h :- q(X), not p(X, Z), r(X, Y), not s(W, W)."), {})
        self.assertEqual(found.order, (3, 0, 1, 2))
        self.assertEqual(self.bound(found), [(), (), ("X",), ("X",), ("X", "Y")])

    def test_a_not_alone_binds_none(self):
        self.assertEqual(self.bound(plan(read_rule("h :- not p(Z)."), {})), [(), ()])
        self.assertEqual(self.bound(Plan(read_rule("h :- not p(Z), q(X)."), (0, 1), ())), [(), (), ("X",)])
        self.assertEqual(self.bound(Plan(read_rule("h :- not p(Z), q(X), X < 3."), (0, 2), ())), [(), (), ()])

    def test_names_given_stay_bound(self):
        found = plan(read_rule("h :- not p(Z, X), q(X), not r(W)."), {}, None, ("X", "W"))
        self.assertEqual((found.order, self.bound(found)), ((0, 2, 1), [("X", "W")] * 4))
        self.assertEqual(found.shown()[1], ((1,), (0,), (0,)))

    def test_a_not_told_to_come_first_binds_all_its_names(self):
        found = plan(read_rule("h :- not p(Z, 2), 2 < X, q(1, X)."), {}, 0)
        self.assertEqual(self.bound(found), [(), ("Z",), ("Z", "X"), ("Z", "X")])
        found = plan(read_rule("h(X) :- q(X, Y), not p(X, Z), not r(W)."), {}, 1)
        self.assertEqual((found.order, self.bound(found)[:3]), ((1, 2, 0), [(), ("X", "Z"), ("X", "Z")]))

    def test_each_not_of_some_rules(self):
        for rule, _ in some_rules(300, 12):
            for order in all_plans(rule, ("X",))[:4]:
                names = {"X"}
                for step, number in enumerate(order):
                    self.assertEqual(set(Plan(rule, order, ("X",)).bound_at(step)), names)
                    names.update(gives(rule, number))


class NoPlanTest(unittest.TestCase):
    def test_refused(self):
        for text in ("p :- X < 1.", "p :- a(X), X < Y.", "p :- X := Y + 1, Y := X + 1.", "p :- not a(X), not b(X).",
                     "p :- a(X), not b(Y), Y < 1.", "p :- X := X + 1.", "p(X) :- not a(X)."):
            with self.assertRaises(BadRule, msg=text):
                plan(read_rule(text), {})
            self.assertEqual(all_plans(read_rule(text)), ())

    def test_given_or_told_first_some_can_be(self):
        self.assertEqual(order_of("p :- X < 1.", {}, None, ("X",)), (0,))
        self.assertEqual(order_of("p(X) :- not a(X).", {}, 0), (0,))
        self.assertEqual(order_of("p :- not a(X), not b(X).", {}, 1), (1, 0))
        with self.assertRaises(BadRule):
            order_of("p :- not a(X), not b(X, Y), Y < Z.", {}, 0)

    def test_a_head_that_is_loose_can_be_planned(self):
        self.assertEqual(order_of("p(X) :- a(Y)."), (0,))


class PlanTest(unittest.TestCase):
    def test_fields(self):
        rule = read_rule("p :- a(X), b(X).")
        found = Plan(rule, [1, 0], ["Z"])
        self.assertIs(found.rule, rule)
        self.assertEqual((found.order, found.given), ((1, 0), ("Z",)))

    def test_bound_at(self):
        rule = read_rule("p :- a(X, Y), Z := X + Y, not b(Z, W), c(V), X < 1.")
        found = Plan(rule, (0, 1, 2, 4, 3), ("G",))
        self.assertIsInstance(found.bound_at(0), tuple)
        self.assertEqual([sorted(found.bound_at(step)) for step in range(5)], [
            ["G"], ["G", "X", "Y"], ["G", "X", "Y", "Z"], ["G", "X", "Y", "Z"], ["G", "X", "Y", "Z"]])
        self.assertEqual(Plan(rule, (3, 0), ()).bound_at(1), ("V",))
        self.assertEqual(Plan(rule, (3, 2, 0), ()).bound_at(2), ("V",))
        self.assertEqual(Plan(rule, (0, 1), ()).bound_at(0), ())

    def test_known_places(self):
        rule = read_rule("p :- a(X, 1, Y), Z := X + 2, not b(Z, W, X, Z), c(V, Y, V, a), X < 1.")
        found = Plan(rule, (0, 1, 2, 3, 4), ())
        self.assertEqual([found.known_places(step) for step in range(5)], [(1,), (1, 2), (0, 2, 3), (1, 3), (0, 1)])
        self.assertEqual(found.shown(), ((0, 1, 2, 3, 4), ((1,), (1, 2), (0, 2, 3), (1, 3), (0, 1))))
        self.assertEqual(Plan(rule, (0,), ("Y",)).known_places(0), (1, 2))


class IsPlanTest(unittest.TestCase):
    def test_each_part_once_when_its_needs_are_bound(self):
        rule = read_rule("p :- a(X), X < 1, Y := X + 1, not b(Y, Z).")
        for order, found in (((0, 1, 2, 3), True), ([0, 2, 3, 1], True), ((0, 2, 1, 3), True), ((1, 0, 2, 3), False),
                             ((0, 3, 2, 1), False), ((0, 1, 2), False), ((0, 1, 2, 3, 3), False), ((0, 0, 1, 2), False),
                             ((0, 1, 2, 4), False), ((), False), ((0, 1, 2, 2), False)):
            self.assertIs(is_plan(rule, order), found, order)
        self.assertIs(is_plan(rule, (1, 0, 2, 3), ("X",)), True)
        self.assertIs(is_plan(rule, (1, 3, 0, 2), ("X",)), False)
        self.assertIs(is_plan(rule, (1, 3, 0, 2), ("X", "Y")), True)
        self.assertIs(is_plan(read_rule("p."), ()), True)
        self.assertIs(is_plan(read_rule("p."), (0,)), False)

    def test_a_not_binds_nothing(self):
        self.assertIs(is_plan(read_rule("p :- not a(X), b(X)."), (0, 1)), False)
        self.assertIs(is_plan(read_rule("p :- not a(X), b(Y)."), (0, 1)), True)

    def test_all_plans(self):
        self.assertEqual(all_plans(read_rule("p :- a(X), X < 1, b(Y).")), ((0, 1, 2), (0, 2, 1), (2, 0, 1)))
        self.assertEqual(all_plans(read_rule("p :- X < 1, a(X)."), ("X",)), ((0, 1), (1, 0)))
        self.assertEqual(all_plans(read_rule("p :- X < 1, a(X).")), ((1, 0),))
        self.assertEqual(all_plans(read_rule("p.")), ((),))
        self.assertEqual(len(all_plans(read_rule("p :- a, b, c, d, e, f."))), 720)


def some_rules(many, seed):
    chosen = random.Random(seed)
    for _ in range(many):
        yield Rule("p", (), [some_part(chosen) for _ in range(chosen.randint(0, 4))]), chosen


def some_term(chosen):
    return val(1) if chosen.random() < 0.2 else var(chosen.choice("XYZW"))


def some_part(chosen):
    kind = chosen.choice(("pos", "pos", "pos", "neg", "cmp", "let"))
    if kind == "cmp":
        return held("<", some_term(chosen), some_term(chosen))
    if kind == "let":
        return let(var(chosen.choice("XYZW")), "+", some_term(chosen), some_term(chosen))
    terms = [some_term(chosen) for _ in range(chosen.randint(0, 3))]
    return (pos if kind == "pos" else neg)(chosen.choice("abc"), terms)


class SomeRulesTest(unittest.TestCase):
    def test_each_step_takes_the_least(self):
        for rule, chosen in some_rules(500, 8):
            sizes = {name: chosen.randint(0, 2) for name in "ab"}
            given = tuple(name for name in "XYZW" if chosen.random() < 0.2)
            plans = all_plans(rule, given)
            if plans == ():
                with self.assertRaises(BadRule):
                    plan(rule, sizes, None, given)
                continue
            order = plan(rule, sizes, None, given).order
            self.assertIn(order, plans)
            bound = list(given)
            for step, number in enumerate(order):
                free = [other for other in order[step:] if all(name in bound for name in needs(rule, other))]
                self.assertEqual(number, min(free, key=lambda other: self.key(rule, other, bound, sizes)))
                self.assertEqual(number, min(free, key=lambda other: (weight(rule, other, bound, sizes), other)))
                bound.extend(gives(rule, number))

    def key(self, rule, number, bound, sizes):
        part = rule.body[number]
        known = len([term for term in part.terms if term.name == "" or term.name in bound])
        if part.kind != "pos":
            return 0, number, 0, 0
        if known == len(part.terms):
            return 1, number, 0, 0
        return 2, -known, sizes.get(part.name, 0), number

    def test_all_plans_are_all_orders_that_are_plans(self):
        for rule, _ in some_rules(300, 9):
            orders = itertools.permutations(range(len(rule.body)))
            self.assertEqual(all_plans(rule), tuple(order for order in orders if is_plan(rule, order)))
            self.assertEqual(all_plans(rule, ("X", "W")), tuple(
                order for order in itertools.permutations(range(len(rule.body))) if is_plan(rule, order, ("X", "W"))))

    def test_weights_are_tuples(self):
        rule = read_rule("p :- a(X), X < 1, b(1), c(X, 1).")
        found = [weight(rule, number, (), {}) for number in range(4)]
        self.assertTrue(all(isinstance(one, tuple) for one in found))
        self.assertLess(found[1], found[2])
        self.assertLess(found[2], found[3])
        self.assertLess(found[3], found[0])
        self.assertLess(weight(rule, 0, (), {"a": 1}), weight(rule, 0, (), {"a": 2}))


if __name__ == "__main__":
    unittest.main()
