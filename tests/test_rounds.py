"""Rounds, [14] (with [13] and [15]): rings worked out by plain rounds and by way of new rows, models ring by ring."""

import random
import unittest

import oracle
from deducehall.layers import check_layers
from deducehall.readers import read_rule
from deducehall.rounds import (
    first_rows, fresh_rows, model, outside, plain_model, plain_rounds, quick_rounds, sizes_of, whole,
)
from deducehall.stores import Store, store_of

PATHS = oracle.rules_of("path(X, Y) :- edge(X, Y). path(X, Z) :- edge(X, Y), path(Y, Z).")
CHAIN = oracle.facts_of("edge(1, 2). edge(2, 3). edge(3, 4). edge(4, 5).")


def filled_by(rounds, rules, ring, base, below):
    """Return (what the rounds return, the store they filled); the base stays as it was."""
    store = store_of(below)
    based = store_of(base)
    kept = based.shown()
    many = rounds(rules, ring, based, store)
    assert based.shown() == kept
    return many, store


class SizesTest(unittest.TestCase):
    def test_names_asked_for_and_against(self):
        store = store_of(oracle.facts_of("a(1). a(2). b. p(1). c(1)."))
        rule = read_rule("p(X) :- a(X), a(Y), not b, X < Y, nobody(X).")
        self.assertEqual(sizes_of(store, rule), {"a": 2, "b": 1, "nobody": 0})
        self.assertEqual(sizes_of(store, read_rule("p(1).")), {})


class WholeTest(unittest.TestCase):
    def rows(self, text, facts):
        return sorted(whole(read_rule(text), store_of(oracle.facts_of(facts))), key=oracle.row_key)

    def test_all_rows_once(self):
        facts = "a(1, 2). a(1, 3). a(w, 4). b(3)."
        self.assertEqual(self.rows("p(X) :- a(X, Y).", facts), [(1,), ("w",)])
        self.assertEqual(self.rows("p(X) :- a(X, Y), not b(Y).", facts), [(1,), ("w",)])
        self.assertEqual(self.rows("p(Z, k) :- a(X, Y), Z := X * Y.", facts), [(2, "k"), (3, "k")])
        self.assertEqual(self.rows("p(X, count(Y)) :- a(X, Y).", facts), [(1, 2), ("w", 1)])
        self.assertEqual(self.rows("p(sum(Y)) :- a(X, Y), Y < 0.", facts), [])
        self.assertEqual(self.rows("p(1).", facts), [(1,)])


class PlainRoundsTest(unittest.TestCase):
    def test_how_many_told_more(self):
        for many, facts in ((4, CHAIN), (1, CHAIN[:1]), (0, ())):
            rounds, store = filled_by(plain_rounds, PATHS, ("path",), (), facts)
            self.assertEqual(rounds, many)
            self.assertEqual(store.of("path").rows(), tuple(
                (one, other) for one in range(1, many + 1) for other in range(one + 1, many + 2)))

    def test_nought_where_the_first_round_tells_nothing(self):
        self.assertEqual(filled_by(plain_rounds, PATHS, ("path",), [("path", (7, 8))], ())[0], 0)
        self.assertEqual(filled_by(plain_rounds, PATHS, ("path",), [("path", (1, 2))], CHAIN[:1])[0], 0)
        self.assertEqual(filled_by(plain_rounds, (), ("path",), [("path", (1, 2))], CHAIN)[0], 0)

    def test_each_round_asks_what_was_there_when_it_began(self):
        rules = oracle.rules_of("b(X) :- a(X). c(X) :- b(X). d(X) :- c(X). b(X) :- d(X).")
        rounds, store = filled_by(plain_rounds, rules, ("b", "c", "d"), (), [("a", (1,))])
        self.assertEqual((rounds, store.of("d").rows()), (3, ((1,),)))
        rounds, store = filled_by(plain_rounds, rules[::-1], ("b", "c", "d"), (), [("a", (1,))])
        self.assertEqual((rounds, store.of("d").rows()), (3, ((1,),)))

    def test_the_same_rows_told_by_two_rules_in_one_round(self):
        rules = oracle.rules_of("p(X) :- a(X). p(X) :- b(X). p(X) :- p(X), a(X).")
        rounds, store = filled_by(plain_rounds, rules, ("p",), (), oracle.facts_of("a(1). b(1). b(2)."))
        self.assertEqual((rounds, store.of("p").rows()), (1, ((1,), (2,))))


class FillTest(unittest.TestCase):
    """What plain and quick rounds fill in alike."""

    def both(self, text, ring, base, below):
        rules = oracle.rules_of(text)
        answers = []
        for rounds in (plain_rounds, quick_rounds):
            store = filled_by(rounds, rules, ring, oracle.facts_of(base), oracle.facts_of(below))[1]
            answers.append(store.shown())
        self.assertEqual(answers[0], answers[1])
        return {name: [row[0] if len(row) == 1 else row for row in rows] for name, rows in answers[0]}

    def test_a_base_with_rows_of_the_ring(self):
        found = self.both("p(X) :- p(Y), b(Y, X).", ("p",), "p(1). b(8, 9).", "b(1, 2). b(2, 3). b(5, 6).")
        self.assertEqual(found["p"], [1, 2, 3])
        self.assertNotIn((8, 9), found["b"])

    def test_rules_of_names_in_no_ring_are_left_out(self):
        found = self.both("p(X) :- a(X). q(X) :- a(X). p(X) :- q(X).", ("p",), "q(7).", "a(1). q(2).")
        self.assertEqual(found, {"a": [1], "q": [2], "p": [1, 2]})

    def test_rows_of_a_ring_that_only_facts_tell(self):
        self.assertEqual(self.both("p(X) :- q(X), a(X).", ("p", "q"), "q(1). q(2). p(5).", "a(1)."),
                         {"a": [1], "p": [1, 5], "q": [1, 2]})
        self.assertEqual(self.both("", ("p",), "p(1). q(2).", ""), {"p": [1]})

    def test_a_ring_of_several_names(self):
        found = self.both("o(Y) :- e(X), n(X, Y). e(Y) :- o(X), n(X, Y).", ("e", "o"), "e(0).",
                          "n(0, 1). n(1, 2). n(2, 3). n(3, 0).")
        self.assertEqual((found["e"], found["o"]), ([0, 2], [1, 3]))

    def test_nots_sums_and_reckonings_over_what_is_below(self):
        found = self.both("""p(X, count(Y)) :- b(X, Y). p(Y, N) :- p(X, M), b(X, Y), not c(Y, Z), t(M, N).
                             p(X, N) :- b(X, Y), N := Y * 100, X < Y.""", ("p",), "",
                          "b(1, 2). b(1, 3). b(2, 3). b(3, 1). c(3, 9). t(2, two). t(1, one).")
        self.assertEqual(found["p"], [(1, 2), (1, 200), (1, 300), (1, "one"), (2, 1), (2, 300), (2, "two"), (3, 1)])

    def test_some_rules(self):
        for seed in range(150):
            chosen = random.Random(seed)
            rules = oracle.drawn_rules(chosen, 5)
            facts = [oracle.drawn_fact(chosen) for _ in range(10)]
            order = check_layers(rules)
            base = store_of(facts)
            wanted = oracle.shown(oracle.model_of(rules, facts))
            self.assertEqual(model(rules, order, base).shown(), wanted, seed)
            self.assertEqual(plain_model(rules, order, base).shown(), wanted, seed)
            self.assertEqual(base.shown(), store_of(facts).shown())


class QuickRoundsTest(unittest.TestCase):
    def test_how_many_went_by_new_rows(self):
        self.assertEqual(filled_by(quick_rounds, PATHS, ("path",), (), ())[0], 0)
        self.assertEqual(filled_by(quick_rounds, PATHS, ("path",), (), CHAIN)[0], 4)
        self.assertEqual(filled_by(quick_rounds, (), ("path",), (), CHAIN)[0], 0)

    def test_a_store_that_has_the_rows_of_the_base(self):
        base = store_of([("path", (3, 9))])
        store = store_of(CHAIN + (("path", (3, 9)),))
        quick_rounds(PATHS[1:], ("path",), base, store)
        self.assertEqual(store.of("path").rows(), ((1, 9), (2, 9), (3, 9)))


class FreshRowsTest(unittest.TestCase):
    def test_by_way_of_a_new_row(self):
        store = store_of(oracle.facts_of("edge(1, 2). edge(2, 3). path(2, 3). path(3, 4). path(2, 9)."))
        self.assertEqual(sorted(fresh_rows(PATHS[1], ("path",), store, {"path": [(2, 3)]})), [(1, 3)])
        self.assertEqual(sorted(fresh_rows(PATHS[1], ("path",), store, {"path": [(2, 3), (3, 4), (2, 9)]})),
                         [(1, 3), (1, 9), (2, 4)])
        self.assertEqual(fresh_rows(PATHS[1], ("path",), store, {"path": []}), [])
        self.assertEqual(fresh_rows(PATHS[0], ("path",), store, {"path": [(2, 3)]}), [])

    def test_one_new_row_at_either_part(self):
        rule = read_rule("p(X, Z) :- p(X, Y), p(Y, Z).")
        store = store_of(oracle.facts_of("p(1, 2). p(2, 3). p(3, 4)."))
        self.assertEqual(sorted(fresh_rows(rule, ("p",), store, {"p": [(2, 3)]})), [(1, 3), (2, 4)])
        store = store_of(oracle.facts_of("p(1, 1)."))
        self.assertEqual(fresh_rows(rule, ("p",), store, {"p": [(1, 1)]}), [(1, 1)])

    def test_only_names_of_the_ring_are_new(self):
        rule = read_rule("p(X) :- q(X), r(X).")
        store = store_of(oracle.facts_of("q(1). r(1)."))
        self.assertEqual(fresh_rows(rule, ("p", "q"), store, {"p": [], "q": [(1,)]}), [(1,)])
        self.assertEqual(fresh_rows(rule, ("p",), store, {"p": []}), [])


class FirstRowsTest(unittest.TestCase):
    def test_the_base_and_what_is_told_from_below(self):
        store = store_of(CHAIN[:2])
        found = first_rows(PATHS, ("path",), store_of([("path", (8, 9)), ("edge", (7, 7))]), store)
        self.assertEqual({name: sorted(rows) for name, rows in found.items()}, {"path": [(1, 2), (2, 3), (8, 9)]})
        self.assertEqual(store.of("path").rows(), ((1, 2), (2, 3), (8, 9)))
        self.assertEqual(store.of("edge").rows(), ((1, 2), (2, 3)))

    def test_each_name_of_the_ring(self):
        rules = oracle.rules_of("e(Y) :- o(X), n(X, Y). o(Y) :- e(X), n(X, Y).")
        found = first_rows(rules, ("e", "o"), store_of([("e", (0,))]), store_of([("n", (0, 1))]))
        self.assertEqual({name: list(rows) for name, rows in found.items()}, {"e": [(0,)], "o": []})


class ModelTest(unittest.TestCase):
    def test_layer_by_layer(self):
        rules = oracle.rules_of("""far(X, Y) :- node(X), node(Y), not path(X, Y).
                                   path(X, Y) :- edge(X, Y). path(X, Z) :- path(X, Y), edge(Y, Z).
                                   most(X, count(Y)) :- far(X, Y).""")
        base = store_of(oracle.facts_of("edge(1, 2). edge(2, 3). node(1). node(2). node(3). other(5). path(3, 3)."))
        kept = base.shown()
        for work in (model, plain_model):
            store = work(rules, check_layers(rules), base)
            self.assertEqual(store.of("far").rows(), ((1, 1), (2, 1), (2, 2), (3, 1), (3, 2)))
            self.assertEqual(store.of("most").rows(), ((1, 1), (2, 2), (3, 2)))
            self.assertEqual(store.of("other").rows(), ((5,),))
            self.assertEqual(base.shown(), kept)

    def test_the_base_is_another_store(self):
        base = store_of([("a", (1,)), ("b", (2,))])
        store = model((), (("a",),), base)
        store.of("a").add((9,))
        store.of("b").add((9,))
        self.assertEqual(base.shown(), (("a", ((1,),)), ("b", ((2,),))))

    def test_outside(self):
        base = store_of(oracle.facts_of("a(1). b(2). c(3)."))
        self.assertEqual(outside((("a", "d"), ("c",)), base).shown(), (("b", ((2,),)),))
        self.assertEqual(outside((), base).shown(), base.shown())
        self.assertEqual(outside((("a",),), Store()).shown(), ())


if __name__ == "__main__":
    unittest.main()
