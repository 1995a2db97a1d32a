"""Costs, [32]: prices, ways, least costs, cheapest grounds, rows by their costs."""

import random
import unittest

import oracle
from deducehall.costs import (
    Prices, all_ways, cheapest, cost, cost_of, costs, price_of, ranked, summed_ways, way_table,
)
from deducehall.engines import Engine
from deducehall.errors import BadSize, NoSuch
from deducehall.grounds import Ground, check_ground, ground
from deducehall.terms import bound_key

PATHS = "path(X, Y) :- edge(X, Y). path(X, Z) :- path(X, Y), path(Y, Z). many(X, count(Y)) :- path(X, Y)."


def engine_of(rules=PATHS, facts=""):
    return Engine(oracle.rules_of(rules), oracle.facts_of(facts))


def prices_of(facts=(), rules=()):
    prices = Prices()
    for name, row, price in facts:
        prices.price_fact(name, row, price)
    for number, price in rules:
        prices.price_rule(number, price)
    return prices


def wanted_costs(engine, prices):
    """Return the least costs, worked out over and over until nothing is cheaper."""
    model = {name: set(rows) for name, rows in engine.shown()}
    table = {(name, row): prices.fact(name, row) for name, row in engine.facts()}
    news = True
    while news:
        news = False
        for number, rule in enumerate(engine.rules):
            for key, asked in wanted_ways(rule, model):
                if all(other in table for other in asked):
                    paid = prices.rule(number) + sum(table[other] for other in asked)
                    if paid < table.get(key, paid + 1):
                        table[key] = paid
                        news = True
    return table


def wanted_ways(rule, model):
    if rule.summed is not None:
        return [((rule.name, row), ()) for row in oracle.told_by(rule, model)]
    return [((rule.name, tuple(oracle.worth(term, bound) for term in rule.terms)),
             tuple((part.name, tuple(oracle.worth(term, bound) for term in part.terms))
                   for part in rule.body if part.kind == "pos"))
            for bound in sorted(oracle.all_bounds(rule, model), key=bound_key)]


class PricesTest(unittest.TestCase):
    def test_none_given(self):
        prices = Prices()
        self.assertEqual((prices.fact("a", (1,)), prices.rule(0), prices.of_facts, prices.of_rules), (0, 1, {}, {}))

    def test_given(self):
        prices = prices_of([("a", (1,), 5), ("a", (2,), 0), ("a", (1,), 6)], [(1, 7), (2, 1)])
        self.assertEqual([prices.fact("a", row) for row in ((1,), (2,), (3,), ("1",))], [6, 0, 0, 0])
        self.assertEqual([prices.rule(number) for number in range(4)], [1, 7, 1, 1])
        self.assertEqual(prices.fact("b", (1,)), 0)

    def test_below_nought_and_below_one(self):
        prices = prices_of([("a", (1,), 5)], [(0, 4)])
        for price in (-1, -99):
            with self.assertRaises(BadSize):
                prices.price_fact("a", (1,), price)
        for price in (0, -1):
            with self.assertRaises(BadSize):
                prices.price_rule(0, price)
        self.assertEqual((prices.fact("a", (1,)), prices.rule(0)), (5, 4))


class WaysTest(unittest.TestCase):
    def test_all_ways(self):
        engine = engine_of("p(X) :- a(X, Y), not c(X), b(Y), 0 < Y. p(X) :- b(X). p(count(X)) :- b(X). p(X) :- q(X).",
                           "a(1, 2). a(1, 1). a(1, 0). b(1). b(2). b(0). a(2, 2). c(2).")
        self.assertEqual(all_ways(engine, "p", (1,)), [
            (0, (("a", (1, 1)), ("b", (1,)))), (0, (("a", (1, 2)), ("b", (2,)))), (1, (("b", (1,)),))])
        self.assertEqual(all_ways(engine, "p", (2,)), [(1, (("b", (2,)),))])
        self.assertEqual((all_ways(engine, "p", (3,)), all_ways(engine, "a", (1, 2)), all_ways(engine, "no", ())),
                         ([], [], []))

    def test_summed_ways(self):
        engine = engine_of("p(count(X)) :- b(X). p(X) :- b(X). p(most(X)) :- b(X).", "b(1). b(3). b(2).")
        self.assertEqual(summed_ways(engine, "p", (3,)), [(0, ()), (2, ())])
        self.assertEqual(all_ways(engine, "p", (3,)), [(1, (("b", (3,)),))])
        self.assertEqual((summed_ways(engine, "p", (1,)), summed_ways(engine, "b", (1,))), ([], []))

    def test_a_row_asked_for_twice_in_a_body(self):
        engine = engine_of("p(X) :- a(X), a(Y).", "a(1).")
        self.assertEqual(all_ways(engine, "p", (1,)), [(0, (("a", (1,)), ("a", (1,))))])

    def test_way_table(self):
        engine = engine_of(PATHS, "edge(1, 2). edge(2, 3). path(7, 8).")
        table = way_table(engine)
        self.assertEqual(table[("path", (1, 3))], [(1, (("path", (1, 2)), ("path", (2, 3))))])
        self.assertEqual(table[("path", (1, 2))], [(0, (("edge", (1, 2)),))])
        self.assertEqual(table[("many", (1, 2))], [(2, ())])
        self.assertEqual((table[("edge", (1, 2))], table[("path", (7, 8))], len(table)), ([], [], engine.store.size()))

    def test_some_way_tables(self):
        for seed in range(60):
            chosen = random.Random(seed)
            engine = Engine(oracle.drawn_rules(chosen, 5), [oracle.drawn_fact(chosen) for _ in range(8)])
            model = {name: set(rows) for name, rows in engine.shown()}
            table = {(name, row): [] for name, rows in engine.shown() for row in rows}
            for number, rule in enumerate(engine.rules):
                for key, asked in wanted_ways(rule, model):
                    table[key].append((number, asked))
            self.assertEqual(way_table(engine), table)
            for name, row in table:
                summed = [way for way in table[(name, row)] if engine.rules[way[0]].summed is not None]
                self.assertEqual(summed_ways(engine, name, row), summed)
                self.assertEqual(all_ways(engine, name, row), [way for way in table[(name, row)] if way not in summed])

    def test_cost_of(self):
        prices = prices_of((), [(2, 5)])
        table = {("a", (1,)): 3, ("b", (1,)): 4}
        for way, paid in (((0, ()), 1), ((2, ()), 5), ((0, (("a", (1,)), ("b", (1,)))), 8),
                          ((2, (("a", (1,)), ("a", (1,)))), 11), ((0, (("a", (1,)), ("a", (2,)))), None)):
            self.assertEqual(cost_of(way, prices, table), paid)


class CostsTest(unittest.TestCase):
    def test_facts_and_rules_at_their_prices(self):
        engine = engine_of("p(X) :- a(X, Y), b(Y).", "a(1, 2). b(2). a(1, 3). b(3).")
        self.assertEqual(cost(engine, Prices(), "p", (1,)), 1)
        prices = prices_of([("a", (1, 2), 4), ("b", (2,), 5), ("a", (1, 3), 6), ("b", (3,), 2)], [(0, 10)])
        self.assertEqual(cost(engine, prices, "p", (1,)), 18)
        self.assertEqual(cost(engine, prices, "b", (3,)), 2)

    def test_rows_told_cheaper_by_a_longer_way(self):
        engine = engine_of(PATHS, "edge(1, 4). edge(1, 2). edge(2, 3). edge(3, 4).")
        prices = prices_of([("edge", (1, 4), 20)])
        self.assertEqual(cost(engine, prices, "path", (1, 4)), 5)
        one = cheapest(engine, prices, "path", (1, 4))
        self.assertEqual((one.number, one.height(), price_of(one, prices)), (1, 4, 5))
        self.assertEqual(ground(engine, "path", (1, 4)).number, 0)
        self.assertEqual(cost(engine, prices_of([("edge", (1, 4), 3)]), "path", (1, 4)), 4)

    def test_as_often_as_it_is_asked(self):
        engine = engine_of("p(X) :- a(X), a(X), a(Y). q(X, Y) :- p(X), p(Y).", "a(1).")
        prices = prices_of([("a", (1,), 7)], [(1, 2)])
        self.assertEqual((cost(engine, prices, "p", (1,)), cost(engine, prices, "q", (1, 1))), (22, 46))
        self.assertEqual(price_of(cheapest(engine, prices, "q", (1, 1)), prices), 46)

    def test_rings(self):
        engine = engine_of(PATHS, "edge(1, 2). edge(2, 1).")
        prices = prices_of([("edge", (1, 2), 10)], [(0, 2), (1, 3)])
        self.assertEqual([cost(engine, prices, "path", row) for row in ((1, 2), (2, 1), (1, 1), (2, 2))],
                         [12, 2, 17, 17])
        engine = engine_of("p(X) :- q(X). q(X) :- p(X). p(X) :- a(X).", "a(1). q(1).")
        prices = prices_of([("q", (1,), 50), ("a", (1,), 3)])
        self.assertEqual([cost(engine, prices, name, (1,)) for name in "paq"], [4, 3, 5])

    def test_facts_that_rules_tell_cheaper(self):
        engine = engine_of("p(X) :- a(X).", "p(1). a(1).")
        for price, paid, number in ((0, 0, None), (1, 1, None), (2, 1, 0)):
            prices = prices_of([("p", (1,), price)])
            self.assertEqual(cost(engine, prices, "p", (1,)), paid)
            self.assertEqual(cheapest(engine, prices, "p", (1,)).number, number)

    def test_summed_rules_ask_for_none(self):
        engine = engine_of("s(count(X)) :- a(X). t(X) :- s(X), a(X).", "a(1). a(2).")
        prices = prices_of([("a", (1,), 30), ("a", (2,), 40)], [(0, 5)])
        self.assertEqual((cost(engine, prices, "s", (2,)), cost(engine, prices, "t", (2,))), (5, 46))
        self.assertEqual(cheapest(engine, prices, "s", (2,)).shown(), ("s", (2,), 0, (), ()))

    def test_nots_cost_nothing(self):
        engine = engine_of("p(X) :- a(X), not b(X), X < 9, Y := X + 1.", "a(1). b(2).")
        self.assertEqual(cost(engine, prices_of([("b", (2,), 90)]), "p", (1,)), 1)

    def test_not_told(self):
        engine = engine_of(PATHS, "edge(1, 2).")
        for name, row in (("path", (2, 1)), ("nobody", ()), ("edge", (1,))):
            with self.assertRaises(NoSuch):
                cost(engine, Prices(), name, row)
            with self.assertRaises(NoSuch):
                cheapest(engine, Prices(), name, row)

    def test_all_rows(self):
        engine = engine_of(PATHS, "edge(1, 2). edge(2, 3). other(5).")
        self.assertEqual(costs(engine, Prices()), {
            ("edge", (1, 2)): 0, ("edge", (2, 3)): 0, ("other", (5,)): 0, ("path", (1, 2)): 1, ("path", (2, 3)): 1,
            ("path", (1, 3)): 3, ("many", (1, 2)): 1, ("many", (2, 1)): 1})
        self.assertEqual(costs(Engine(), Prices()), {})

    def test_some_engines(self):
        for seed in range(100):
            chosen = random.Random(seed)
            engine = Engine(oracle.drawn_rules(chosen, 5), [oracle.drawn_fact(chosen) for _ in range(8)])
            prices = prices_of([(name, row, chosen.randint(0, 6)) for name, row in engine.facts()],
                               [(number, chosen.randint(1, 4)) for number in range(len(engine.rules))])
            table = costs(engine, prices)
            self.assertEqual(table, wanted_costs(engine, prices))
            for name, row in table:
                self.assertEqual(cost(engine, prices, name, row), table[(name, row)])
                one = cheapest(engine, prices, name, row, table)
                self.assertEqual(price_of(one, prices), table[(name, row)])
                self.assertIs(check_ground(engine.rules, engine.facts(), engine.store, one), True)


class CheapestTest(unittest.TestCase):
    def test_the_first_rule_then_the_least_binding(self):
        engine = engine_of("p(X) :- a(X, Y), b(Y). p(X) :- c(X). p(X) :- b(X).", "a(1, 9). a(1, 3). b(9). b(3). c(1). b(1).")
        one = cheapest(engine, Prices(), "p", (1,))
        self.assertEqual((one.number, one.bound), (0, {"X": 1, "Y": 3}))
        prices = prices_of([("b", (3,), 1)])
        one = cheapest(engine, prices, "p", (1,))
        self.assertEqual((one.number, one.bound), (0, {"X": 1, "Y": 9}))
        self.assertEqual(cheapest(engine, prices_of((), [(0, 2)]), "p", (1,)).shown(),
                         ("p", (1,), 1, (("X", 1),), (("c", (1,), None, (), ()),)))
        prices = prices_of([("c", (1,), 4)], [(0, 2), (1, 5), (2, 1)])
        self.assertEqual(cheapest(engine, prices, "p", (1,)).number, 2)

    def test_a_table_handed_in(self):
        engine = engine_of(PATHS, "edge(1, 2). edge(2, 3).")
        prices = prices_of([("edge", (1, 2), 4)])
        one = cheapest(engine, prices, "path", (1, 3), costs(engine, prices))
        self.assertEqual(one.shown(), cheapest(engine, prices, "path", (1, 3)).shown())

    def test_price_of(self):
        prices = prices_of([("a", (1,), 5)], [(0, 3)])
        leaf = Ground("a", (1,), None, {}, [])
        self.assertEqual(price_of(leaf, prices), 5)
        self.assertEqual(price_of(Ground("p", (1,), 0, {"X": 1}, [leaf, leaf]), prices), 13)
        self.assertEqual(price_of(Ground("p", (1,), 1, {}, []), prices), 1)


class RankedTest(unittest.TestCase):
    def test_the_cheapest_first_then_in_order(self):
        engine = engine_of("p(X) :- a(X).", "a(2). a(w). a(10). a(-1). a('1').")
        prices = prices_of([("a", (2,), 3), ("a", (-1,), 3), ("a", ("w",), 1)])
        self.assertEqual(ranked(engine, prices, "p"), ((1, (10,)), (1, ("1",)), (2, ("w",)), (4, (-1,)), (4, (2,))))
        self.assertEqual(ranked(engine, Prices(), "a"), ((0, (-1,)), (0, (2,)), (0, (10,)), (0, ("1",)), (0, ("w",))))
        self.assertEqual(ranked(engine_of("p(X) :- a(X)."), prices, "p"), ())


if __name__ == "__main__":
    unittest.main()
