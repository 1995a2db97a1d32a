"""Redo, [17] (with [13] to [15]): rings kept up by taking out, telling again, putting in."""

import random
import unittest

import oracle
from deducehall.layers import check_layers, is_ring
from deducehall.readers import read_rule
from deducehall.redo import Redo, head_bound, tells, ways_to
from deducehall.stores import Changes, apart, laid_on, store_of
from test_counts import changes_of

PATHS = "path(X, Y) :- edge(X, Y). path(X, Z) :- edge(X, Y), path(Y, Z)."


def parted(ring, changes):
    """Return (changes of a ring's names, those of other names)."""
    own, others = Changes(), Changes()
    for name in changes.names():
        for row in changes.went(name):
            (own if name in ring else others).note(name, row, False)
        for row in changes.came(name):
            (own if name in ring else others).note(name, row, True)
    return own, others


class Kept:
    """A Redo over rules, a base of its ring's facts, and what is below it."""

    def __init__(self, ring, rules, based="", below=""):
        self.rules = oracle.rules_of(rules)
        self.base = store_of(oracle.facts_of(based))
        self.store = store_of(oracle.facts_of(below))
        self.redo = Redo(ring, self.rules)
        self.redo.count_all(self.store, self.base)

    def change(self, came="", went=""):
        """Take changes in; return what came and went of the ring; all is as if worked out anew."""
        based, changes = parted(self.redo.ring, changes_of(came, went))
        laid_on(self.base, based)
        before = self.store.twin()
        laid_on(self.store, changes)
        assert self.redo.keep_up(self.store, based, changes, self.base) is None
        anew = self.store.twin()
        for name in self.redo.ring:
            anew.of(name).held.clear()
        other = Redo(self.redo.ring, self.rules)
        other.count_all(anew, self.base)
        assert anew.shown() == self.store.shown(), (anew.shown(), self.store.shown())
        assert apart(before, self.store).shown() == changes.shown()
        assert self.redo.sums == other.sums
        return parted(self.redo.ring, changes)[0].shown()

    def rows(self, name):
        return self.store.of(name).rows()


class RedoTest(unittest.TestCase):
    def test_fields(self):
        rules = oracle.rules_of("p(X, count(Y)) :- b(X, Y). p(Y, N) :- p(X, N), b(X, Y), not c(X). q(X) :- d(X).")
        redo = Redo(["p"], rules)
        self.assertEqual((redo.ring, list(redo.rules)), (("p",), list(rules[:2])))
        self.assertEqual((list(redo.plain), list(redo.summed)), ([rules[1]], [rules[0]]))
        self.assertEqual(sorted(redo.heard), ["b", "c", "p"])
        store = store_of(oracle.facts_of("b(1, 2). b(1, 3)."))
        redo.count_all(store, store_of([("p", (7, 7))]))
        self.assertEqual([sorted(told) for told in redo.sums], [[(1, 2)]])
        self.assertEqual([sorted(told) for told in redo.sums_now(store)], [[(1, 2)]])
        self.assertEqual(store.of("p").rows(), ((1, 2), (2, 2), (3, 2), (7, 7)))

    def test_rows_that_stand_on_themselves_alone(self):
        kept = Kept(("path",), PATHS, "", "edge(1, 2). edge(2, 3). edge(3, 2). edge(3, 4).")
        self.assertEqual(len(kept.rows("path")), 9)
        self.assertEqual(kept.change("", "edge(1, 2)."), (("path", (), ((1, 2), (1, 3), (1, 4))),))
        self.assertEqual(kept.change("", "edge(3, 4). edge(3, 2)."),
                         (("path", (), ((2, 2), (2, 4), (3, 2), (3, 3), (3, 4))),))
        kept = Kept(("p", "q"), "p(X) :- q(X). q(X) :- p(X). p(X) :- a(X).", "", "a(1). a(2).")
        self.assertEqual(kept.change("", "a(1)."), (("p", (), ((1,),)), ("q", (), ((1,),))))
        self.assertEqual(kept.rows("q"), ((2,),))

    def test_rows_told_otherwise_too(self):
        kept = Kept(("path",), PATHS, "", "edge(1, 2). edge(2, 4). edge(1, 3). edge(3, 4). edge(4, 5).")
        self.assertEqual(kept.change("", "edge(2, 4)."), (("path", (), ((2, 4), (2, 5))),))
        self.assertEqual(kept.change("edge(2, 4).", "edge(3, 4)."), (("path", ((2, 4), (2, 5)), ((3, 4), (3, 5))),))

    def test_facts_of_the_ring(self):
        kept = Kept(("path",), PATHS, "path(4, 9).", "edge(1, 4). edge(2, 1).")
        self.assertEqual(kept.rows("path"), ((1, 4), (1, 9), (2, 1), (2, 4), (2, 9), (4, 9)))
        self.assertEqual(kept.change("path(1, 9)."), ())
        self.assertEqual(kept.change("", "path(4, 9)."), (("path", (), ((4, 9),)),))
        self.assertEqual(kept.change("path(4, 8). path(1, 4).", "path(1, 9)."),
                         (("path", ((1, 8), (2, 8), (4, 8)), ((1, 9), (2, 9))),))
        self.assertEqual(kept.change("", "edge(1, 4)."), (("path", (), ((1, 8), (2, 8))),))
        self.assertEqual(kept.change("edge(1, 4).", "path(1, 4)."), (("path", ((1, 8), (2, 8)), ()),))

    def test_nots_below(self):
        kept = Kept(("p",), "p(X) :- a(X). p(Y) :- p(X), b(X, Y), not c(Y, Z).", "", "a(1). b(1, 2). b(2, 3). b(3, 1).")
        self.assertEqual(kept.rows("p"), ((1,), (2,), (3,)))
        self.assertEqual(kept.change("c(2, 5). c(2, 6)."), (("p", (), ((2,), (3,))),))
        self.assertEqual(kept.change("", "c(2, 5)."), ())
        self.assertEqual(kept.change("c(3, 3).", "c(2, 6)."), (("p", ((2,),), ()),))
        self.assertEqual(kept.change("c(2, 1).", "c(3, 3)."), (("p", (), ((2,),)),))

    def test_sums_below(self):
        rules = "p(X, sum(Y)) :- b(X, Y). p(Y, N) :- p(X, N), e(X, Y)."
        kept = Kept(("p",), rules, "", "b(1, 2). b(1, 3). e(1, 2). e(2, 1).")
        self.assertEqual(kept.rows("p"), ((1, 5), (2, 5)))
        self.assertEqual(kept.change("b(1, 1)."), (("p", ((1, 6), (2, 6)), ((1, 5), (2, 5))),))
        self.assertEqual(kept.change("b(1, w)."), (("p", (), ((1, 6), (2, 6))),))
        self.assertEqual(kept.change("b(2, 6).", "b(1, w)."), (("p", ((1, 6), (2, 6)), ()),))
        self.assertEqual(kept.change("", "b(2, 6)."), ())
        self.assertEqual(kept.change("", "b(1, 1). b(1, 2). b(1, 3)."), (("p", (), ((1, 6), (2, 6))),))

    def test_a_sum_told_by_two_summed_rules(self):
        kept = Kept(("p",), "p(count(X)) :- a(X). p(count(X)) :- b(X). p(X) :- p(Y), e(Y, X).", "",
                    "a(1). a(2). b(5). b(6). e(2, 7).")
        self.assertEqual(kept.change("", "a(1)."), (("p", ((1,),), ()),))
        self.assertEqual(kept.change("", "b(5)."), (("p", (), ((2,), (7,))),))

    def test_reckonings_below(self):
        kept = Kept(("p",), "p(X, N) :- b(X, M), N := M * 2. p(Y, N) :- p(X, N), e(X, Y).", "", "b(1, 2). e(1, 2).")
        self.assertEqual(kept.change("b(1, 3).", "b(1, 2)."), (("p", ((1, 6), (2, 6)), ((1, 4), (2, 4))),))
        self.assertEqual(kept.change("b(2, w)."), ())

    def test_names_below_that_change_both_ways_at_once(self):
        kept = Kept(("path",), PATHS, "", "edge(1, 2). edge(2, 3). edge(3, 4).")
        self.assertEqual(kept.change("edge(2, 4). edge(1, 3).", "edge(1, 2). edge(3, 4)."),
                         (("path", (), ((1, 2), (1, 4), (3, 4))),))
        self.assertEqual(kept.change("edge(3, 1).", "edge(2, 3)."),
                         (("path", ((1, 1), (3, 1), (3, 3)), ((2, 3),)),))

    def test_one_row_gone_and_told_again_in_one_change(self):
        kept = Kept(("p", "q"), "p(X) :- q(X), a(X). q(X) :- p(X). q(X) :- b(X). p(X) :- c(X).", "", "a(1). b(1).")
        self.assertEqual(kept.change("c(1).", "b(1)."), ())
        self.assertEqual(kept.change("", "a(1)."), ())
        self.assertEqual(kept.change("q(1).", "c(1)."), (("p", (), ((1,),)),))

    def test_a_ring_of_several_names(self):
        kept = Kept(("even", "odd"), "odd(Y) :- even(X), n(X, Y). even(Y) :- odd(X), n(X, Y).", "even(0).",
                    "n(0, 1). n(1, 2). n(2, 3).")
        self.assertEqual((kept.rows("even"), kept.rows("odd")), (((0,), (2,)), ((1,), (3,))))
        self.assertEqual(kept.change("odd(0).", "even(0)."),
                         (("even", ((1,), (3,)), ((0,), (2,))), ("odd", ((0,), (2,)), ((1,), (3,)))))

    def test_some_changes(self):
        many = 0
        for seed in range(400):
            chosen = random.Random(seed)
            rules = oracle.drawn_rules(chosen, 6)
            for ring in check_layers(rules):
                own = [rule for rule in rules if rule.name in ring]
                if is_ring(own, ring):
                    many += 1
                    self.keep_up_some(chosen, ring, own)
        self.assertGreater(many, 60)

    def keep_up_some(self, chosen, ring, rules):
        base, store = store_of(()), store_of(())
        redo = Redo(ring, rules)
        redo.count_all(store, base)
        for _ in range(5):
            based, below = Changes(), Changes()
            for name, row, came in oracle.drawn_steps(
                    chosen, 4, lambda name, row: (base if name in ring else store).has(name, row)):
                (based if name in ring else below).note(name, row, came)
            laid_on(base, based)
            before = store.twin()
            laid_on(store, below)
            redo.keep_up(store, based, below, base)
            anew = store.twin()
            for name in ring:
                anew.of(name).held.clear()
            Redo(ring, rules).count_all(anew, base)
            self.assertEqual(store.shown(), anew.shown())
            self.assertEqual(below.shown(), apart(before, store).shown())


class StepsTest(unittest.TestCase):
    """What the parts of a change tell."""

    def kept(self):
        rules = "p(X) :- a(X). p(Y) :- p(X), b(X, Y), not c(Y). p(count(X)) :- d(X)."
        return Kept(("p",), rules, "p(9).", "a(1). a(2). b(1, 3). b(3, 4). b(2, 3). d(1).")

    def test_parted_sums(self):
        redo = self.kept().redo
        self.assertEqual(redo.parted_sums([{(1,): True, (2,): True}], [{(2,): True}]), [("p", (1,))])
        self.assertEqual(redo.parted_sums([{(2,): True}], [{(2,): True, (3,): True}]), [])

    def test_gone_and_news(self):
        kept = self.kept()
        based = changes_of("p(8).", "p(9).")
        changes = changes_of("c(3). a(5).", "a(2).")
        laid_on(kept.base, based)
        laid_on(kept.store, changes)
        first = kept.redo.first_gone(kept.store, based, changes, [("p", (1,))])
        self.assertEqual({pair for pair in first}, {("p", (9,)), ("p", (1,)), ("p", (2,)), ("p", (3,))})
        gone = kept.redo.all_gone(kept.store, based, changes, [])
        self.assertEqual({name: sorted(rows) for name, rows in gone.items()}, {"p": [(2,), (3,), (4,), (9,)]})
        news = kept.redo.first_news(kept.store, based, changes, [("p", (7,))])
        self.assertEqual({pair for pair in news}, {("p", (8,)), ("p", (5,)), ("p", (7,))})

    def test_still_told(self):
        kept = self.kept()
        for row, told in (((9,), True), ((1,), True), ((3,), True), ((4,), True), ((5,), False)):
            self.assertIs(kept.redo.still_told("p", row, kept.store, kept.base), told)
        for row in ((1,), (2,)):
            kept.store.of("p").drop(row)
        self.assertIs(kept.redo.still_told("p", (3,), kept.store, kept.base), False)
        kept.store.of("a").drop((1,))
        self.assertIs(kept.redo.still_told("p", (1,), kept.store, kept.base), True)

    def test_put_rounds(self):
        kept = self.kept()
        kept.store.of("b").add((6, 7))
        kept.store.of("b").add((7, 6))
        found = kept.redo.put_rounds(kept.store, [("p", (6,)), ("p", (1,))])
        self.assertEqual({name: sorted(rows) for name, rows in found.items()}, {"p": [(6,), (7,)]})
        self.assertEqual({name: list(rows) for name, rows in kept.redo.put_rounds(kept.store, []).items()}, {"p": []})


class WaysTest(unittest.TestCase):
    def test_head_bound(self):
        rule = read_rule("p(X, 1, X) :- a(X).")
        self.assertEqual(head_bound(rule, (5, 1, 5)), {"X": 5})
        for row in ((5, 1, 6), (5, 2, 5), (5, 1), ()):
            self.assertIs(head_bound(rule, row), None)
        self.assertEqual(head_bound(read_rule("p :- a(X)."), ()), {})

    def test_ways_to(self):
        store = store_of(oracle.facts_of("a(1, 2). a(1, 3). a(2, 3). b(3)."))
        rule = read_rule("p(X) :- a(X, Y), not b(X), Y < 9.")
        self.assertEqual(sorted(bound["Y"] for bound in ways_to(rule, (1,), store)), [2, 3])
        self.assertEqual((ways_to(rule, (3,), store), ways_to(rule, (1, 2), store)), ([], []))
        self.assertEqual((tells(rule, (2,), store), tells(rule, (3,), store), tells(rule, (), store)),
                         (True, False, False))

    def test_a_reckoned_head(self):
        store = store_of(oracle.facts_of("a(1, 2). a(2, 1). a(1, 3)."))
        rule = read_rule("p(Z) :- a(X, Y), Z := X + Y.")
        self.assertEqual(len(ways_to(rule, (3,), store)), 2)
        self.assertEqual((tells(rule, (4,), store), tells(rule, (5,), store), tells(rule, ("w",), store)),
                         (True, False, False))


if __name__ == "__main__":
    unittest.main()
