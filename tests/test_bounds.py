"""Bounds, [22] (with [8] and [34]): numbers, what is broken with its first answer, keys and values that stand elsewhere."""

import random
import unittest

import oracle
from deducehall.bounds import Bounds, only_one, stands_in
from deducehall.engines import Engine, many_changes
from deducehall.errors import BadRule, BadSize, Broken, NoSuch
from deducehall.queries import bound_of
from deducehall.readers import read
from deducehall.rules import pos
from deducehall.stores import Changes
from deducehall.terms import val, var


def engine_of(rules="", facts=""):
    return Engine(oracle.rules_of(rules), oracle.facts_of(facts))


def body_of(text):
    return read(text)[0].body


def bounds_of(engine, *texts):
    bounds = Bounds()
    for text in texts:
        bounds.set_bound(body_of(text), engine)
    return bounds


class BoundsCase(unittest.TestCase):
    def refused(self, error, bounds, deed, *arguments):
        before = list(bounds.held)
        with self.assertRaises(error) as caught:
            deed(*arguments)
        self.assertIs(type(caught.exception), error)
        self.assertEqual(bounds.held, before)


class NumbersTest(BoundsCase):
    def test_from_nought_on_as_they_are_set(self):
        bounds = Bounds()
        self.assertEqual((bounds.held, bounds.shown()), ([], ()))
        engine = engine_of("", "p(1).")
        self.assertEqual([bounds.set_bound(body_of(text), engine) for text in
                          ("! :- p(2).", "! :- p(X), q(X).", "! :- p(2).")], [0, 1, 2])
        self.assertEqual(bounds.shown(), (0, 1, 2))

    def test_a_lifted_number_stays_bare(self):
        engine = engine_of("", "p(1).")
        bounds = bounds_of(engine, "! :- p(2).", "! :- p(3).", "! :- p(4).")
        self.assertIs(bounds.lift(1), None)
        self.assertIs(bounds.held[1], None)
        self.assertEqual(bounds.shown(), (0, 2))
        self.assertEqual(bounds.set_bound(body_of("! :- p(5)."), engine), 3)
        bounds.lift(3)
        self.assertEqual(bounds.set_bound(body_of("! :- p(6)."), engine), 4)
        self.assertEqual(bounds.shown(), (0, 2, 4))
        self.assertEqual([bound is None for bound in bounds.held], [False, True, False, True, False])

    def test_what_cannot_be_lifted(self):
        bounds = bounds_of(engine_of(), "! :- p(2).", "! :- p(3).")
        bounds.lift(0)
        for number in (0, 2, -1, 7):
            self.refused(NoSuch, bounds, bounds.lift, number)

    def test_a_lifted_bound_is_looked_at_no_more(self):
        engine = engine_of("", "p(1).")
        bounds = bounds_of(engine, "! :- p(2).", "! :- p(3).")
        engine.take_in(many_changes([("p", (2,), True), ("p", (3,), True)]))
        bounds.lift(0)
        self.assertEqual(bounds.broken(engine), ((1, ()),))
        self.assertEqual(bounds.touched(many_changes([("p", (2,), True)])), (1,))
        bounds.lift(1)
        self.assertIs(bounds.check(engine), True)


class SettingTest(BoundsCase):
    def test_one_that_is_broken_when_it_is_set(self):
        engine = engine_of("r(X) :- p(X), not q(X).", "p(1). p(2). q(2).")
        bounds = bounds_of(engine, "! :- q(1).")
        for text in ("! :- p(1).", "! :- r(X).", "! :- p(X), X < 2.", "! :- not q(1).", "! :- 1 < 2.",
                     "! :- p(X), Y := X + 1, Y = 2."):
            self.refused(Broken, bounds, bounds.set_bound, body_of(text), engine)
        self.assertEqual(bounds.set_bound(body_of("! :- r(2)."), engine), 1)

    def test_an_unsafe_one(self):
        engine = engine_of("", "p(1).")
        bounds = bounds_of(engine, "! :- q(1).")
        for text in ("! :- X < 1.", "! :- not p(X), not q(X).", "! :- p(X), X := 1 + 2.", "! :- X := Y + 1."):
            self.refused(BadRule, bounds, bounds.set_bound, body_of(text), engine)
        self.refused(BadRule, bounds, bounds.set_bound, [pos("not", [var("X")])], engine)
        self.refused(BadSize, bounds, bounds.set_bound, [pos("p", [val(10 ** 18)])], engine)

    def test_names_that_nobody_knows(self):
        engine = engine_of()
        bounds = bounds_of(engine, "! :- nobody(X, Y).", "! :- nobody(X), not other(X).")
        self.assertEqual(bounds.broken(engine), ())
        engine.put("nobody", (1,))
        self.assertEqual(bounds.broken(engine), ((1, (("X", 1),)),))


class BrokenTest(BoundsCase):
    def test_the_first_answer_of_each_in_order(self):
        engine = engine_of("r(X, Y) :- p(X), p(Y), X < Y.")
        bounds = bounds_of(engine, "! :- r(Y, X).", "! :- p(9).", "! :- p(X).", "! :- p(_), r(_, 7).", "! :- r(X, X).")
        self.assertEqual(bounds.broken(engine), ())
        self.assertIs(bounds.check(engine), True)
        engine.take_in(many_changes([("p", (row,), True) for row in (9, 7, "w", 3)]))
        self.assertEqual(bounds.broken(engine), ((0, (("Y", 3), ("X", 7))), (1, ()), (2, (("X", 3),)), (3, ())))
        with self.assertRaises(Broken) as caught:
            bounds.check(engine)
        self.assertIs(type(caught.exception), Broken)

    def test_touched_are_those_that_ask_a_name_with_changes(self):
        engine = engine_of("r(X) :- p(X).")
        bounds = bounds_of(engine, "! :- p(X), q(X).", "! :- r(1).", "! :- s(X), not q(X).", "! :- 2 < 1.")
        for names, numbers in (("p", (0,)), ("q", (0, 2)), ("r", (1,)), ("rs", (1, 2)), ("t", ()), ("", ())):
            changes = many_changes([(name, (5,), name != "s") for name in names])
            self.assertEqual(bounds.touched(changes), numbers, names)

    def test_names_whose_rows_came_back_are_not_changed(self):
        bounds = bounds_of(engine_of(), "! :- p(X), q(X).")
        changes = many_changes([("p", (1,), True), ("p", (1,), False)])
        self.assertEqual(bounds.touched(changes), ())
        self.assertEqual(bounds.touched(Changes()), ())

    def test_broken_by_changes(self):
        engine = engine_of("r(X) :- p(X), q(X).")
        bounds = bounds_of(engine, "! :- q(X), X < 2.", "! :- r(X).", "! :- p(X), q(X), X != 1.")
        engine.take_in(many_changes([("q", (1,), True)]))
        told = engine.put("p", (1,))
        self.assertEqual(bounds.broken(engine), ((0, (("X", 1),)), (1, (("X", 1),))))
        self.assertEqual(bounds.broken_by(engine, told), ((1, (("X", 1),)),))
        self.assertEqual(bounds.broken_by(engine, many_changes([("q", (1,), True)])), ((0, (("X", 1),)),))
        self.assertEqual(bounds.broken_by(engine, many_changes([("s", (1,), True)])), ())


class KeyTest(BoundsCase):
    def set_of(self, texts):
        bounds = Bounds()
        for text in texts:
            bounds.set_bound(bound_of(text).rule.body, Engine())
        return bounds

    def test_one_bound_for_each_other_place(self):
        for places, count, many in (((0,), 3, 2), ((0, 2), 3, 1), ([2, 0], 3, 1), ((0, 1, 2), 3, 0), ((), 2, 2),
                                    ((1,), 2, 1), ((), 0, 0)):
            texts = only_one("p", places, count)
            self.assertIs(type(texts), tuple)
            self.assertEqual(len(texts), many, (places, count))
            for text in texts:
                self.assertEqual([clause.kind for clause in read(text)], ["bound"])

    def test_rows_alike_at_the_key_are_alike_elsewhere(self):
        facts = [("p", row) for row in ((1, 1, 1), (1, 1, 2), (1, 2, 1), (2, 1, 1), (2, "1", 1))]
        for places in ((0,), (1,), (0, 1), (0, 2), (2, 1), (0, 1, 2), ()):
            bounds = self.set_of(only_one("p", places, 3))
            for one in facts:
                for other in facts:
                    found = bounds.broken(Engine((), [one, other]))
                    alike = all(one[1][place] == other[1][place] for place in places)
                    unlike = [place for place in range(3) if place not in places and one[1][place] != other[1][place]]
                    others = [place for place in range(3) if place not in places]
                    self.assertEqual([number for number, _ in found],
                                     [others.index(place) for place in unlike] if alike else [])

    def test_values_stand_in_another_name(self):
        engine = engine_of("", "elder(ann, bob). elder(bob, 3). person(1, ann). person(2, bob). person(4, 3).")
        for text, holds in ((stands_in("elder", 0, 2, "person", 1, 2), True),
                            (stands_in("elder", 1, 2, "person", 1, 2), True),
                            (stands_in("elder", 1, 2, "person", 0, 2), False),
                            (stands_in("person", 1, 2, "elder", 0, 2), False),
                            (stands_in("person", 0, 2, "person", 0, 2), True),
                            (stands_in("nobody", 0, 1, "person", 0, 2), True),
                            (stands_in("person", 0, 2, "nobody", 2, 3), False)):
            clauses = read(text)
            self.assertEqual([clause.kind for clause in clauses], ["bound"])
            bounds = Bounds()
            if holds:
                self.assertEqual(bounds.set_bound(clauses[0].body, engine), 0)
            else:
                self.refused(Broken, bounds, bounds.set_bound, clauses[0].body, engine)

    def test_a_value_that_stands_nowhere_is_the_first_answer(self):
        bounds = self.set_of([stands_in("p", 1, 3, "q", 0, 2)])
        engine = engine_of("", "p(1, w, 3). p(2, 5, 3). q(w, 1). q(1, 5).")
        (number, answer), = bounds.broken(engine)
        self.assertEqual((number, [value for _, value in answer]), (0, [5]))


class DrawnTest(BoundsCase):
    def test_against_bodies_worked_out_the_long_way(self):
        breaks = 0
        for seed in range(80):
            chosen = random.Random(seed)
            engine = Engine(oracle.drawn_rules(chosen, 3), [oracle.drawn_fact(chosen) for _ in range(6)])
            bounds = Bounds()
            bodies = []
            for rule in [oracle.drawn_rule(chosen) for _ in range(5)]:
                held = oracle.all_bounds(rule, oracle.model_of(engine.rules, engine.facts()))
                if held:
                    self.refused(Broken, bounds, bounds.set_bound, rule.body, engine)
                else:
                    self.assertEqual(bounds.set_bound(rule.body, engine), len(bodies))
                    bodies.append(rule)
            told = engine.take_in(many_changes(oracle.drawn_steps(chosen, 5, engine.base.has)))
            table = oracle.model_of(engine.rules, engine.facts())
            broken = [number for number, rule in enumerate(bodies) if oracle.all_bounds(rule, table)]
            breaks += len(broken)
            # Bounds held before: only what changed can break them, so none is left out by looking at those touched.
            self.assertEqual([number for number, _ in bounds.broken(engine)], broken)
            self.assertEqual(bounds.broken_by(engine, told), bounds.broken(engine))
        self.assertGreater(breaks, 20)


if __name__ == "__main__":
    unittest.main()
