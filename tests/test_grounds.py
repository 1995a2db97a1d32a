"""Grounds, [19]: why rows are told, rounds, the checker of grounds, tables that ground a model, the nearest."""

import random
import unittest

import oracle
from deducehall.engines import Engine
from deducehall.errors import BadGround, NoSuch
from deducehall.grounds import (
    Ground, best_way, check_ground, check_model, check_parts, ground, lower, model_table, nearest, needed, ranks,
    ring_of, stands,
)
from deducehall.readers import read_rule
from deducehall.terms import bound_key

PATHS = """path(X, Y) :- edge(X, Y). path(X, Z) :- path(X, Y), path(Y, Z).
           far(X, count(Y)) :- path(X, Y). end(X) :- node(X), not edge(X, Y). dist(X, N) :- far(X, M), N := M * 10, 10 < N."""
EDGES = "edge(1, 2). edge(2, 3). edge(3, 4). edge(1, 3). node(3). node(4). path(4, 5)."


def engine_of(rules=PATHS, facts=EDGES):
    return Engine(oracle.rules_of(rules), oracle.facts_of(facts))


def fact(name, row):
    return name, row, None, (), ()


class GroundTest(unittest.TestCase):
    def test_fields_and_sizes(self):
        leaf = Ground("a", (1,), None, {}, [])
        middle = Ground("b", (1,), 0, {"X": 1}, [leaf])
        top = Ground("c", (1, 1), 1, {"Y": 1, "X": 1}, [middle, leaf, middle])
        self.assertEqual((top.name, top.row, top.number, top.bound, top.parts),
                         ("c", (1, 1), 1, {"Y": 1, "X": 1}, [middle, leaf, middle]))
        self.assertEqual([one.size() for one in (leaf, middle, top)], [1, 2, 6])
        self.assertEqual([one.height() for one in (leaf, middle, top)], [1, 2, 3])
        middle_shown = ("b", (1,), 0, (("X", 1),), (fact("a", (1,)),))
        self.assertEqual(top.shown(), ("c", (1, 1), 1, (("X", 1), ("Y", 1)),
                                       (middle_shown, fact("a", (1,)), middle_shown)))

    def test_one_stands_in_many_places(self):
        one = Ground("a", (1,), None, {}, [])
        for _ in range(100):
            one = Ground("b", (1,), 0, {}, [one, one])
        self.assertEqual((one.size(), one.height()), (2 ** 101 - 1, 101))


class RanksTest(unittest.TestCase):
    def test_rounds_of_a_ring(self):
        table = ranks(engine_of())
        self.assertEqual({row: rank for (name, row), rank in table.items() if name == "path"}, {
            (4, 5): 0, (1, 2): 1, (2, 3): 1, (3, 4): 1, (1, 3): 1, (1, 4): 2, (2, 4): 2, (3, 5): 2, (1, 5): 3, (2, 5): 3})
        self.assertEqual({rank for (name, row), rank in table.items() if name in ("edge", "node")}, {0})
        self.assertEqual({rank for (name, row), rank in table.items() if name in ("far", "end", "dist")}, {1})
        self.assertEqual(len(table), engine_of().store.size())

    def test_facts_that_rules_tell_too(self):
        self.assertEqual(ranks(engine_of("p(X) :- a(X).", "a(1). p(1). q(2).")),
                         {("a", (1,)): 0, ("p", (1,)): 0, ("q", (2,)): 0})

    def test_as_plain_rounds_tell(self):
        engine = engine_of("b(X) :- a(X). c(X) :- b(X). d(X) :- c(X), not z. b(X) :- d(X). c(X) :- e(X), b(X).",
                           "a(1). d(2). e(1).")
        table = ranks(engine)
        self.assertEqual([table[(name, (1,))] for name in "abcd"], [0, 1, 2, 3])
        self.assertEqual([table[(name, (2,))] for name in "bcd"], [1, 2, 0])

    def test_ring_of(self):
        engine = engine_of("p(X) :- q(X). q(X) :- p(X). r(X) :- p(X).", "s(1).")
        self.assertEqual([ring_of(engine, name) for name in "pqrst"],
                         [("p", "q"), ("p", "q"), ("r",), ("s",), ("t",)])


class LowerTest(unittest.TestCase):
    def test_rows_of_the_ring_alone(self):
        rule = read_rule("p(X) :- a(X, Y), p(Y), q(Y).")
        table = {("a", (1, 2)): 9, ("p", (2,)): 3, ("q", (2,)): 1}
        bound = {"X": 1, "Y": 2}
        for ring, rank, answer in ((("p",), 4, True), (("p",), 3, False), (("p", "q"), 4, True), (("q",), 2, True),
                                   (("q",), 1, False), (("r",), 0, True)):
            self.assertIs(lower(rule, bound, ring, table, rank), answer)
        self.assertIs(lower(rule, {"X": 1, "Y": 3}, ("p",), table, 9), False)

    def test_stands(self):
        engine = engine_of()
        table = ranks(engine)
        rule = engine.rules[1]
        for row, rank, answer in (((1, 4), 2, True), ((1, 4), 1, False), ((1, 5), 3, True), ((1, 5), 2, False),
                                  ((5, 1), 9, False), ((1, 2), 9, False)):
            self.assertIs(stands(rule, row, ("path",), engine.store, table, rank), answer)
        self.assertIs(stands(engine.rules[2], (1, 4), ("far",), engine.store, table, 1), True)
        self.assertIs(stands(engine.rules[2], (1, 3), ("far",), engine.store, table, 1), False)


class GroundsTest(unittest.TestCase):
    def test_a_fact_is_grounded_as_such(self):
        engine = engine_of("p(X) :- a(X).", "a(1). p(1). p(2).")
        for row in ((1,), (2,)):
            self.assertEqual(ground(engine, "p", row).shown(), fact("p", row))
        engine.take("p", (1,))
        self.assertEqual(ground(engine, "p", (1,)).shown(), ("p", (1,), 0, (("X", 1),), (fact("a", (1,)),)))

    def test_the_first_rule_then_the_least_binding(self):
        engine = engine_of("p(X) :- b(X). p(Z) :- a(A, Z, B). p(X) :- a(B, X, A).",
                           "a(2, 1, 1). a(1, 1, 9). a(1, 1, x). b(5). a(1, 5, 1).")
        self.assertEqual(ground(engine, "p", (5,)).number, 0)
        one = ground(engine, "p", (1,))
        self.assertEqual((one.number, one.bound), (1, {"A": 1, "B": 9, "Z": 1}))
        self.assertEqual(best_way(engine, ranks(engine), "p", (1,)), (1, {"A": 1, "B": 9, "Z": 1}))

    def test_names_in_order_of_letters(self):
        engine = engine_of("p :- a(Y, X).", "a(1, 9). a(2, 3).")
        self.assertEqual(ground(engine, "p", ()).bound, {"X": 3, "Y": 2})
        engine = engine_of("p :- a(X).", "a(w). a(10). a(9).")
        self.assertEqual(ground(engine, "p", ()).bound, {"X": 9})

    def test_parts_in_the_order_of_the_body(self):
        engine = engine_of("p(X) :- not c(X, Z), a(X, Y), 0 < Y, b(Y), W := Y + 1, a(X, Y).", "a(1, 2). b(2).")
        self.assertEqual(ground(engine, "p", (1,)).shown(), (
            "p", (1,), 0, (("W", 3), ("X", 1), ("Y", 2)),
            (fact("a", (1, 2)), fact("b", (2,)), fact("a", (1, 2)))))

    def test_rows_that_several_rounds_tell(self):
        engine = engine_of()
        one = ground(engine, "path", (1, 4))
        self.assertEqual((one.number, one.bound), (1, {"X": 1, "Y": 3, "Z": 4}))
        one = ground(engine, "path", (1, 5))
        self.assertEqual((one.bound["Y"], one.height(), one.size()), (3, 4, 7))
        engine = engine_of("p(X) :- q(X). p(X) :- a(X). q(X) :- p(X).", "a(1).")
        self.assertEqual((ground(engine, "p", (1,)).number, ground(engine, "q", (1,)).number), (1, 2))

    def test_rows_of_rings_that_stand_on_each_other(self):
        engine = engine_of("odd(Y) :- even(X), n(X, Y). even(Y) :- odd(X), n(X, Y).", "even(0). n(0, 1). n(1, 2). n(2, 0).")
        one = ground(engine, "even", (2,))
        self.assertEqual((one.height(), one.parts[0].name, one.parts[0].parts[0].shown()), (3, "odd", fact("even", (0,))))
        one = ground(engine, "odd", (0,))
        self.assertEqual([part.name for part in one.parts], ["even", "n"])
        self.assertIs(check_ground(engine.rules, engine.facts(), engine.store, one), True)

    def test_summed_rules_and_nots(self):
        engine = engine_of()
        self.assertEqual(ground(engine, "far", (1, 4)).shown(), ("far", (1, 4), 2, (), ()))
        self.assertEqual(ground(engine, "end", (4,)).shown(), ("end", (4,), 3, (("X", 4),), (fact("node", (4,)),)))
        self.assertEqual(ground(engine, "dist", (2, 30)).shown(), (
            "dist", (2, 30), 4, (("M", 3), ("N", 30), ("X", 2)), (("far", (2, 3), 2, (), ()),)))

    def test_rows_not_told(self):
        engine = engine_of()
        for name, row in (("path", (5, 1)), ("edge", (9, 9)), ("nobody", ()), ("far", (1, 3)), ("path", (1,))):
            with self.assertRaises(NoSuch):
                ground(engine, name, row)
            with self.assertRaises(NoSuch):
                best_way(engine, ranks(engine), name, row)

    def test_a_fact_alone_has_no_way(self):
        engine = engine_of()
        with self.assertRaises(NoSuch):
            best_way(engine, ranks(engine), "path", (4, 5))

    def test_a_table_handed_in(self):
        engine = engine_of()
        table = ranks(engine)
        self.assertEqual(ground(engine, "path", (1, 5), table).shown(), ground(engine, "path", (1, 5)).shown())

    def test_a_long_way_down(self):
        engine = Engine(oracle.rules_of("path(X, Z) :- path(X, Y), edge(Y, Z)."),
                        [("path", (0, 1))] + [("edge", (number, number + 1)) for number in range(1, 1500)])
        one = ground(engine, "path", (0, 1500))
        self.assertEqual((one.height(), one.size()), (1500, 2999))
        self.assertIs(check_ground(engine.rules, engine.facts(), engine.store, one), True)


class CheckGroundTest(unittest.TestCase):
    def setUp(self):
        self.engine = engine_of()

    def check(self, one):
        return check_ground(self.engine.rules, self.engine.facts(), self.engine.store, one)

    def refused(self, one):
        with self.assertRaises(BadGround, msg=str(one.shown())):
            self.check(one)

    def test_each_row_told_has_one_that_is_taken(self):
        for name, rows in self.engine.shown():
            for row in rows:
                self.assertIs(self.check(ground(self.engine, name, row)), True)

    def test_facts(self):
        self.assertIs(self.check(Ground("edge", (1, 2), None, {}, [])), True)
        self.refused(Ground("edge", (2, 1), None, {}, []))
        self.refused(Ground("node", (1, 2), None, {}, []))
        self.refused(Ground("path", (1, 2), None, {}, []))
        self.refused(Ground("edge", (1, 2), None, {}, [Ground("node", (3,), None, {}, [])]))

    def one(self, name="path", row=(1, 4)):
        return ground(self.engine, name, row)

    def test_changed_at_each_field(self):
        for name, row in (("path", (1, 4)), ("path", (1, 2)), ("end", (4,)), ("dist", (1, 40)), ("far", (1, 4))):
            for field, values in (("name", ("edge", "nobody", "node")), ("row", ((1, 5), (9,), ())),
                                  ("number", (-1, 5, None, 3 if name != "end" else 0))):
                for value in values:
                    one = self.one(name, row)
                    setattr(one, field, value)
                    self.refused(one)

    def test_bindings_changed(self):
        for name, row in (("path", (1, 4)), ("end", (4,)), ("dist", (1, 40))):
            for word in self.one(name, row).bound:
                one = self.one(name, row)
                del one.bound[word]
                self.refused(one)
                for value in (9, "w"):
                    one = self.one(name, row)
                    one.bound[word] = value
                    self.refused(one)
        one = self.one("end", (4,))
        one.bound["Y"] = 1
        self.assertIs(self.check(one), True)

    def test_parts_changed(self):
        for deed in (lambda parts: parts.pop(), lambda parts: parts.reverse(), lambda parts: parts.append(parts[0]),
                     lambda parts: parts.clear(), lambda parts: setattr(parts[0], "row", (1, 4)),
                     lambda parts: setattr(parts[1], "name", "edge"), lambda parts: setattr(parts[0], "number", None),
                     lambda parts: setattr(parts[0].parts[0], "row", (9, 9)), lambda parts: parts[1].parts.clear(),
                     lambda parts: parts[0].bound.clear()):
            one = self.one()
            deed(one.parts)
            self.refused(one)

    def test_a_deep_part_changed(self):
        one = self.one("path", (1, 5))
        one.parts[1].parts[0].parts[0].row = (3, 5)
        self.refused(one)

    def test_a_ground_that_stands_on_itself(self):
        engine = engine_of("p(X) :- q(X). q(X) :- p(X).", "p(1).")
        one = Ground("p", (2,), 0, {"X": 2}, [])
        one.parts.append(Ground("q", (2,), 1, {"X": 2}, [one]))
        with self.assertRaises(BadGround):
            check_ground(engine.rules, engine.facts(), engine.store, one)

    def test_nots_and_sums_hold_over_the_store_told(self):
        one = self.one("end", (4,))
        self.engine.put("edge", (4, 4))
        self.refused(one)
        one = self.one("far", (2, 3))
        self.assertIs(self.check(one), True)
        one.row = (2, 2)
        self.refused(one)
        one = self.one("far", (2, 3))
        one.bound["X"] = 2
        self.refused(one)
        one = self.one("far", (2, 3))
        one.parts.append(Ground("edge", (1, 2), None, {}, []))
        self.refused(one)
        one = self.one("dist", (2, 30))
        self.engine.take("edge", (3, 4))
        self.refused(one)

    def test_tests_and_reckonings(self):
        rules = oracle.rules_of("p(X, Y) :- a(X), b(Y), X < Y. r(X, Z) :- a(X), Z := X + X.")
        engine = Engine(rules, oracle.facts_of("a(1). a(5). b(2). a(w)."))
        part_of = {value: Ground("a", (value,), None, {}, []) for value in (1, 5, "w")}
        two = Ground("b", (2,), None, {}, [])

        def check(one):
            return check_ground(engine.rules, engine.facts(), engine.store, one)

        self.assertIs(check(Ground("p", (1, 2), 0, {"X": 1, "Y": 2}, [part_of[1], two])), True)
        self.assertIs(check(Ground("r", (5, 10), 1, {"X": 5, "Z": 10}, [part_of[5]])), True)
        for one in (Ground("p", (5, 2), 0, {"X": 5, "Y": 2}, [part_of[5], two]),
                    Ground("r", (5, 11), 1, {"X": 5, "Z": 11}, [part_of[5]]),
                    Ground("r", ("w", "ww"), 1, {"X": "w", "Z": "ww"}, [part_of["w"]]),
                    Ground("r", (5, "10"), 1, {"X": 5, "Z": "10"}, [part_of[5]])):
            with self.assertRaises(BadGround):
                check(one)

    def test_names_left_open_need_no_value(self):
        self.assertEqual(set(needed(self.engine.rules[3])), {"X"})
        self.assertEqual(set(needed(self.engine.rules[4])), {"X", "M", "N"})
        self.assertEqual(set(needed(self.engine.rules[1])), {"X", "Y", "Z"})

    def test_check_parts(self):
        rule = self.engine.rules[1]
        engine = self.engine
        check_parts(engine.rules, engine.facts(), engine.store, self.one(), rule)
        for deed in (lambda one: one.parts.pop(), lambda one: one.parts[0].parts.clear(),
                     lambda one: one.parts.append(one.parts[0]), lambda one: one.bound.update(Y=2)):
            one = self.one()
            deed(one)
            with self.assertRaises(BadGround):
                check_parts(engine.rules, engine.facts(), engine.store, one, rule)

    def test_some_engines(self):
        for seed in range(80):
            chosen = random.Random(seed)
            engine = Engine(oracle.drawn_rules(chosen, 5), [oracle.drawn_fact(chosen) for _ in range(8)])
            table = ranks(engine)
            for name, row, rank in model_table(engine):
                one = ground(engine, name, row, table)
                self.assertIs(check_ground(engine.rules, engine.facts(), engine.store, one), True)
                if engine.base.has(name, row):
                    self.assertEqual((one.number, one.bound, one.parts, rank), (None, {}, [], 0))
                else:
                    self.assertEqual((one.number, one.bound), self.wanted(engine, table, name, row))

    def wanted(self, engine, table, name, row):
        """Return the first rule and its least binding by which a row stands on rows of its ring told earlier."""
        model = {other: set(rows) for other, rows in engine.shown()}
        ring = ring_of(engine, name)
        for number, rule in enumerate(engine.rules):
            if rule.name == name and rule.summed is not None and row in oracle.told_by(rule, model):
                return number, {}
            if rule.name == name and rule.summed is None:
                bounds = [bound for bound in oracle.all_bounds(rule, model)
                          if tuple(oracle.worth(term, bound) for term in rule.terms) == row
                          and all(table[(part.name, tuple(oracle.worth(term, bound) for term in part.terms))]
                                  < table[(name, row)] for part in rule.body if part.kind == "pos" and part.name in ring)]
                if bounds:
                    return number, min(bounds, key=bound_key)
        raise AssertionError((name, row))


class ModelTest(unittest.TestCase):
    def refused(self, engine, claims):
        with self.assertRaises(BadGround):
            check_model(engine.rules, engine.facts(), claims)

    def test_the_table_of_an_engine(self):
        engine = engine_of()
        claims = model_table(engine)
        self.assertEqual(claims[:2], (("dist", (1, 40), 1), ("dist", (2, 30), 1)))
        self.assertEqual([(name, row) for name, row, _ in claims],
                         [(name, row) for name, rows in engine.shown() for row in rows])
        store = check_model(engine.rules, engine.facts(), claims)
        self.assertEqual(store.shown(), engine.shown())
        self.assertEqual(check_model(engine.rules, engine.facts(), claims[::-1]).shown(), engine.shown())

    def test_a_row_less(self):
        engine = engine_of()
        claims = model_table(engine)
        for number in range(len(claims)):
            self.refused(engine, claims[:number] + claims[number + 1:])

    def test_a_row_more_and_a_row_twice(self):
        engine = engine_of()
        claims = model_table(engine)
        for claim in (("path", (5, 1), 9), ("node", (1,), 0), ("nobody", (), 0), ("far", (1, 3), 1), ("end", (3,), 1),
                      ("edge", (1, 2), 0), ("path", (1, 2), 5)):
            self.refused(engine, claims + (claim,))

    def test_ranks_turned(self):
        engine = engine_of()
        claims = model_table(engine)
        self.refused(engine, [(name, row, -rank) for name, row, rank in claims])
        self.refused(engine, [(name, row, 0) for name, row, rank in claims])
        wider = [(name, row, rank * 3 + 1) for name, row, rank in claims]
        self.assertEqual(check_model(engine.rules, engine.facts(), wider).shown(), engine.shown())

    def test_rows_that_stand_on_themselves_alone(self):
        engine = engine_of("p(X) :- q(X). q(X) :- p(X).", "p(1).")
        claims = model_table(engine)
        for one, other in ((1, 2), (2, 1), (1, 1)):
            self.refused(engine, claims + (("p", (2,), one), ("q", (2,), other)))

    def test_facts_have_any_rank(self):
        engine = engine_of("p(X) :- q(X). q(X) :- p(X).", "p(1).")
        self.assertEqual(check_model(engine.rules, engine.facts(), [("p", (1,), 7), ("q", (1,), 8)]).shown(),
                         engine.shown())
        self.refused(engine, [("p", (1,), 7), ("q", (1,), 7)])

    def test_some_engines(self):
        for seed in range(60):
            chosen = random.Random(seed)
            engine = Engine(oracle.drawn_rules(chosen, 5), [oracle.drawn_fact(chosen) for _ in range(8)])
            claims = model_table(engine)
            self.assertEqual(check_model(engine.rules, engine.facts(), claims).shown(), engine.shown())
            number = chosen.randrange(len(claims))
            self.refused(engine, claims[:number] + claims[number + 1:])
            name, row = oracle.drawn_fact(chosen)
            self.refused(engine, claims + ((name, row, chosen.randint(1, 3)),))


class NearestTest(unittest.TestCase):
    RULES = """p(X, Y) :- a(X), b(Y), c(X, Y). p(1, Y) :- b(Y), Y < 0. p(X, X) :- a(X). p(X, count(Y)) :- c(X, Y).
               p(X, Z) :- a(X), Z := X + 1, not b(Z). q(X) :- a(X). p(X, Y) :- e(X, Z), e(Z, Y), X < Y."""

    def test_rules_whose_head_fits(self):
        engine = engine_of(self.RULES, "a(1). a(3). b(2). b(5). c(3, 2). e(1, 2). e(2, 9). e(4, 7). e(8, 2).")
        for row, answer in (((1, 5), ((0, 2), (1, 1), (4, 0), (6, 1))), ((2, 5), ((0, 1), (4, 0), (6, 1))),
                            ((2, 2), ((0, 1), (2, 0), (4, 0), (6, 0))), ((1, 2), ((0, 2), (1, 1), (4, 1), (6, 2))),
                            ((4, 9), ((0, 0), (4, 0), (6, 2))), ((9, 1), ((0, 0), (4, 0), (6, 0))),
                            ((9, "w"), ((0, 0), (4, 0), (6, 1)))):
            with self.subTest(row=row):
                self.assertEqual([number for number, _ in nearest(engine, "p", row)], [number for number, _ in answer])
                self.assertIsInstance(nearest(engine, "p", row), tuple)

    def test_how_many_parts_hold_together(self):
        engine = engine_of("p(X) :- a(X), b(X), c(X).", "a(1). b(1). c(2). a(3). b(4). a(5). b(5). c(5). b(6).")
        for value, many in ((1, 2), (2, 0), (3, 1), (4, 0), (6, 0), (7, 0)):
            self.assertEqual(nearest(engine, "p", (value,)), ((0, many),))
        engine = engine_of("p(X) :- a(X, Y), b(Y).", "a(1, 2). b(3). b(4). b(5). a(2, 3).")
        self.assertEqual((nearest(engine, "p", (1,)), nearest(engine, "p", (3,))), (((0, 1),), ((0, 0),)))
        engine = engine_of("p :- a(X), X < 0, b(X). p :- 2 < 1.", "a(-1). a(2). b(2). b(3). b(4).")
        self.assertEqual(nearest(engine, "p", ()), ((0, 2), (1, 0)))
        engine.take("b", (3,))
        engine.take("b", (4,))
        self.assertEqual(nearest(engine, "p", ()), ((0, 1), (1, 0)))

    def test_none(self):
        engine = engine_of(self.RULES, "a(1).")
        for name, row in (("nobody", ()), ("a", (9,)), ("p", (1,)), ("p", ())):
            self.assertEqual(nearest(engine, name, row), ())
        self.assertEqual(nearest(engine, "q", (4,)), ((5, 0),))


if __name__ == "__main__":
    unittest.main()
