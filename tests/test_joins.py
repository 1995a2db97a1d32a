"""Joins, [13] (with [2] and [7]): the bindings under which a body holds, whatever the plan."""

import random
import unittest

import oracle
from deducehall.joins import Views, as_key, heads, holds_between, none_there, solutions, told_names, widened
from deducehall.plans import all_plans, plan
from deducehall.readers import read_rule
from deducehall.rules import Rule, let, pos
from deducehall.stores import Before, Relation, store_of
from deducehall.terms import bound_key, val, var


def found(text, facts, start=None, own=None):
    """Return a body's bindings in order, the same by every plan."""
    rule = read_rule(text)
    views = Views(store_of(oracle.facts_of(facts)), own)
    answers = []
    for order in all_plans(rule, tuple(start or {})):
        answers.append(sorted(solutions(rule, order, views, start), key=bound_key))
    assert all(answer == answers[0] for answer in answers) and answers, text
    return answers[0]


class ViewsTest(unittest.TestCase):
    def test_a_store_but_for_own_ones(self):
        rule = read_rule("p(X) :- a(X), a(X), not b(X).")
        store = store_of([("a", (1,)), ("b", (2,))])
        own = {1: Relation([(3,)])}
        views = Views(store, own)
        self.assertIs(views.store, store)
        self.assertIs(views.own, own)
        self.assertEqual([views.of(rule, number).rows() for number in range(3)], [((1,),), ((3,),), ((2,),)])
        self.assertEqual(Views(store).own, {})
        self.assertEqual(Views(store).of(read_rule("p :- c."), 0).rows(), ())

    def test_a_part_with_a_relation_of_its_own_next_to_one_of_the_same_name(self):
        facts = "a(1). a(2). a(3)."
        own = {1: Relation([(2,), (5,)])}
        self.assertEqual(found("p :- a(X), a(Y), X < Y.", facts, None, own),
                         [{"X": 1, "Y": 2}, {"X": 1, "Y": 5}, {"X": 2, "Y": 5}, {"X": 3, "Y": 5}])
        self.assertEqual(found("p :- a(X), not a(X).", facts, None, own), [{"X": 1}, {"X": 3}])
        own = {0: Before(Relation([(1,), (2,)]), [(2,)], [(7,)])}
        self.assertEqual(found("p :- a(X).", facts, None, own), [{"X": 1}, {"X": 7}])


class HoldsBetweenTest(unittest.TestCase):
    def test_each_sign(self):
        for one, other, row in ((1, 2, (True, True, False, True)), (2, 1, (False, False, False, True)),
                                (-2, -1, (True, True, False, True)), (3, 3, (False, True, True, False)),
                                (99, "a", (True, True, False, True)), ("a", -99, (False, False, False, True)),
                                ("1", 1, (False, False, False, True)), (1, "1", (True, True, False, True)),
                                ("a", "b", (True, True, False, True)), ("b", "ab", (False, False, False, True)),
                                ("a", "a", (False, True, True, False)), ("", "a", (True, True, False, True)),
                                ("Z", "a", (True, True, False, True))):
            for sign, holds in zip(("<", "<=", "=", "!="), row):
                self.assertIs(holds_between(sign, one, other), holds, (one, sign, other))


class NotsTest(unittest.TestCase):
    def test_names_that_stand_nowhere_else_are_left_open(self):
        rule = read_rule("h(X) :- q(X), not p(X, Z).")
        relation = Relation([(1, 5), (2, 6)])
        self.assertIs(none_there(rule, 1, {"X": 1}, relation), False)
        self.assertIs(none_there(rule, 1, {"X": 3}, relation), True)
        self.assertIs(none_there(rule, 1, {"X": 3}, Relation()), True)

    def test_left_open_whatever_the_binding_has(self):
        rule = read_rule("h(X) :- q(X), not p(X, Z).")
        self.assertIs(none_there(rule, 1, {"X": 1, "Z": 9}, Relation([(1, 5)])), False)
        self.assertEqual(found("h(X) :- q(X), not p(X, Z).", "q(1). q(2). p(1, 5).", {"Z": 9}), [{"X": 2, "Z": 9}])

    def test_a_name_twice_in_one_not_has_one_value(self):
        rule = read_rule("h :- not p(Z, Z).")
        self.assertIs(none_there(rule, 0, {}, Relation([(1, 2), (2, 1)])), True)
        self.assertIs(none_there(rule, 0, {}, Relation([(1, 2), (2, 2)])), False)
        self.assertEqual(found("h(X) :- q(X), not p(X, Z, Z).", "q(1). q(2). p(1, 3, 3). p(2, 3, 4)."), [{"X": 2}])
        self.assertEqual(found("h :- not p(Z, Z, 1).", "p(2, 2, 2). p(1, 2, 1)."), [{}])

    def test_a_name_in_two_nots_and_elsewhere(self):
        facts = "q(1). q(2). q(3). p(1). r(2, 5)."
        self.assertEqual(found("h(X) :- q(X), not p(X), not r(X, Z).", facts), [{"X": 3}])
        self.assertEqual(found("h :- q(X), not p(X), not r(X, X).", facts), [{"X": 2}, {"X": 3}])

    def test_a_name_in_two_nots_alone_that_is_given(self):
        facts = "q(1). p(1). r(2)."
        for value, holds in ((1, False), (2, False), (3, True)):
            self.assertEqual(found("h :- not p(Z), not r(Z).", facts, {"Z": value}), [{"Z": value}] if holds else [])

    def test_a_name_in_a_not_and_in_the_head_is_no_open_one(self):
        rule = read_rule("h(X) :- not p(X).")
        self.assertIs(none_there(rule, 0, {"X": 1}, Relation([(2,)])), True)
        self.assertIs(none_there(rule, 0, {"X": 2}, Relation([(2,)])), False)

    def test_other_names_in_two_nots_are_open_in_each(self):
        facts = "q(1). q(2). p(1, 7). r(2, 8)."
        self.assertEqual(found("h(X) :- q(X), not p(X, Z), not r(X, W).", facts), [])
        self.assertEqual(found("h(X) :- q(X), not p(X, Z), not r(8, W).", facts), [{"X": 2}])

    def test_nots_without_places_and_of_names_without_rows(self):
        self.assertEqual(found("h :- not z.", "a(1)."), [{}])
        self.assertEqual(found("h :- not z.", "z."), [])
        self.assertEqual(found("h :- z, not nobody(X, 1).", "z."), [{}])


class WidenedTest(unittest.TestCase):
    def test_the_binding_handed_in_is_not_changed(self):
        rule = read_rule("h :- a(X, Y), Y < 9, Z := X + Y, not b(Z).")
        views = Views(store_of([("a", (1, 2)), ("a", (1, 3))]))
        for number, bound, count in ((0, {"X": 1}, 2), (1, {"X": 1, "Y": 2}, 1), (2, {"X": 1, "Y": 2}, 1),
                                     (3, {"X": 1, "Y": 2, "Z": 3}, 1), (0, {"X": 1, "Y": 2}, 1)):
            kept = dict(bound)
            answer = widened(rule, number, bound, views)
            self.assertIsInstance(answer, list)
            self.assertEqual(len(answer), count)
            for wider in answer:
                wider["W"] = 1
            self.assertEqual(bound, kept)

    def test_rows(self):
        rule = read_rule("h :- a(X, 1, X).")
        views = Views(store_of([("a", (1, 1, 1)), ("a", (2, 1, 2)), ("a", (1, 1, 2)), ("a", (3, 3, 3)), ("a", (1,))]))
        self.assertEqual(sorted(wider["X"] for wider in widened(rule, 0, {}, views)), [1, 2])
        self.assertEqual(widened(rule, 0, {"X": 2, "Y": 7}, views), [{"X": 2, "Y": 7}])
        self.assertEqual(widened(rule, 0, {"X": 3}, views), [])

    def test_one_and_the_word_one_are_two(self):
        self.assertEqual(found("h :- a(X), b(X).", "a(1). a('1'). b('1')."), [{"X": "1"}])
        self.assertEqual(found("h :- a('1').", "a(1)."), [])


class ReckoningsTest(unittest.TestCase):
    def test_a_new_value(self):
        self.assertEqual(found("h :- a(X), Y := X - 5.", "a(1). a(-3)."), [{"X": -3, "Y": -8}, {"X": 1, "Y": -4}])

    def test_a_name_that_has_a_value_already(self):
        text = "h(Z) :- a(X, Y), Z := X + Y."
        facts = "a(1, 2). a(2, 2). a(0, 3)."
        self.assertEqual(found(text, facts, {"Z": 3}), [{"X": 0, "Y": 3, "Z": 3}, {"X": 1, "Y": 2, "Z": 3}])
        self.assertEqual(found(text, facts, {"Z": 5}), [])
        self.assertEqual(found(text, facts, {"Z": "w"}), [])
        self.assertEqual(found(text, facts, {"Z": "3"}), [])

    def test_a_name_that_another_part_binds(self):
        rule = Rule("h", (), [pos("a", [var("X"), var("Y")]), let(var("Y"), "+", var("X"), val(1))])
        views = Views(store_of([("a", (1, 2)), ("a", (1, 3)), ("a", (2, "w"))]))
        for order in all_plans(rule):
            self.assertEqual(solutions(rule, order, views), [{"X": 1, "Y": 2}])

    def test_words(self):
        self.assertEqual(found("h :- a(X), Y := X + 1.", "a(w). a(1)."), [{"X": 1, "Y": 2}])
        self.assertEqual(found("h :- Y := x * 0.", "a(1)."), [])

    def test_eighteen_and_nineteen_figures(self):
        most = 999999999999999999
        facts = f"a({most}). a({most - 1}). a(-{most}). a(1000000000)."
        self.assertEqual([bound["Y"] for bound in found("h :- a(X), Y := X + 1.", facts)],
                         [1 - most, 1000000001, most])
        self.assertEqual([bound["Y"] for bound in found("h :- a(X), Y := X - 1.", facts)],
                         [999999999, most - 2, most - 1])
        self.assertEqual(found("h :- a(X), Y := X * X.", facts), [])
        self.assertEqual(found("h :- Y := 999999999 * 1000000000.", facts), [{"Y": 999999999000000000}])
        self.assertEqual(found("h :- Y := 1000000000 * 1000000000.", facts), [])


class SolutionsTest(unittest.TestCase):
    def test_one_body_by_every_plan(self):
        text = "h(X, W) :- a(X, Y), b(Y, Z), X < Z, W := X + Z, not c(W, V), d(W)."
        facts = "a(1, 2). a(2, 2). b(2, 3). b(2, 4). b(2, w). c(4, 9). d(4). d(5). d(6)."
        self.assertGreater(len(all_plans(read_rule(text))), 10)
        self.assertEqual(found(text, facts), [
            {"W": 5, "X": 1, "Y": 2, "Z": 4}, {"W": 5, "X": 2, "Y": 2, "Z": 3}, {"W": 6, "X": 2, "Y": 2, "Z": 4}])

    def test_bare_bodies(self):
        rule = Rule("h", (), ())
        start = {"X": 1}
        self.assertEqual(solutions(rule, (), Views(store_of(()))), [{}])
        answer = solutions(rule, (), Views(store_of(())), start)
        self.assertEqual(answer, [{"X": 1}])
        answer[0]["Y"] = 1
        self.assertEqual(start, {"X": 1})

    def test_a_binding_given_stays(self):
        facts = "a(1, 2). a(2, 3)."
        self.assertEqual(found("h :- a(X, Y).", facts, {"X": 2}), [{"X": 2, "Y": 3}])
        self.assertEqual(found("h :- a(X, Y).", facts, {"V": 9, "X": 1}), [{"V": 9, "X": 1, "Y": 2}])
        self.assertEqual(found("h :- a(X, Y).", facts, {"X": 3}), [])
        self.assertEqual(found("h :- a(1, 2).", facts, {"V": "v"}), [{"V": "v"}])

    def test_tests_between_numbers_and_words(self):
        facts = "a(-2). a(3). a(w). a('3')."
        self.assertEqual(found("h :- a(X), X < 3.", facts), [{"X": -2}])
        self.assertEqual(found("h :- a(X), 3 < X.", facts), [{"X": "3"}, {"X": "w"}])
        self.assertEqual(found("h :- a(X), X <= 3.", facts), [{"X": -2}, {"X": 3}])
        self.assertEqual(found("h :- a(X), X = '3'.", facts), [{"X": "3"}])
        self.assertEqual(found("h :- a(X), X != w.", facts), [{"X": -2}, {"X": 3}, {"X": "3"}])
        self.assertEqual(found("h :- a(X), a(Y), Y < X, w <= X.", facts),
                         [{"X": "w", "Y": -2}, {"X": "w", "Y": 3}, {"X": "w", "Y": "3"}])
        self.assertEqual(found("h :- 1 < 2.", facts), [{}])
        self.assertEqual(found("h :- b < a.", facts), [])

    def test_rows_of_another_count_of_places_do_not_fit(self):
        rule = read_rule("h :- a(X), b(1, Y).")
        store = store_of([("a", (1,)), ("a", (1, 2)), ("a", ()), ("b", (1, 5)), ("b", (1,)), ("b", (1, 5, 5))])
        for order in all_plans(rule):
            self.assertEqual(solutions(rule, order, Views(store)), [{"X": 1, "Y": 5}])

    def test_some_bodies(self):
        for seed in range(250):
            chosen = random.Random(seed)
            rule = oracle.drawn_rule(chosen)
            facts = [oracle.drawn_fact(chosen) for _ in range(12)]
            table = {}
            for name, row in facts:
                table.setdefault(name, set()).add(row)
            wanted = sorted(oracle.all_bounds(rule, table), key=bound_key)
            for order in all_plans(rule) + (plan(rule, {}).order,):
                answer = solutions(rule, order, Views(store_of(facts)))
                self.assertEqual(sorted(answer, key=bound_key), wanted, (seed, order))


class HeadsTest(unittest.TestCase):
    def test_each_once(self):
        rule = read_rule("p(X, 1, X) :- a(X, Y).")
        answer = heads(rule, [{"X": 2, "Y": 1}, {"X": 1, "Y": 1}, {"X": 2, "Y": 2}])
        self.assertIsInstance(answer, list)
        self.assertEqual(sorted(answer), [(1, 1, 1), (2, 1, 2)])
        self.assertEqual(heads(rule, []), [])
        self.assertEqual(heads(read_rule("p :- a(X)."), [{"X": 1}, {"X": 2}]), [()])


class OwnNamesTest(unittest.TestCase):
    def test_all_but_those_left_open(self):
        for text, names in (("p(Y, X) :- a(X, Z), Y := X + Z.", ("Y", "X", "Z")), ("p :- a(X), not b(X, Y).", ("X",)),
                            ("p :- a(X), not b(X, Y, Y), not c(Z).", ("X",)), ("p.", ()), ("p :- not b(X).", ()),
                            ("p :- a(Y), not b(Y), not c(Y, _).", ("Y",)), ("p(X) :- a(X, _).", ("X", "_1")),
                            ("p :- a(X), not b(Z), not c(Z), a(Y).", ("X", "Z", "Y"))):
            self.assertEqual(told_names(read_rule(text)), names)

    def test_key(self):
        rule = read_rule("p(Y, X) :- a(X, Z), Y := X + Z, not b(W).")
        self.assertEqual(as_key(rule, {"X": 1, "Z": "2", "Y": 3, "W": 9, "V": 8}), (3, 1, "2"))
        self.assertEqual(as_key(rule, {"X": 1, "Z": "2", "Y": 3, "W": 7}), (3, 1, "2"))
        self.assertNotEqual(as_key(read_rule("p :- a(X)."), {"X": 1}), as_key(read_rule("p :- a(X)."), {"X": "1"}))
        self.assertEqual(as_key(read_rule("p."), {}), ())


if __name__ == "__main__":
    unittest.main()
