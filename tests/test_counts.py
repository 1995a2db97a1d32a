"""Counts, [16] (with [13] and [15]): ways of rows, kept up by facts and bindings that come and go."""

import random
import unittest

import oracle
from deducehall.counts import (
    Count, bound_by, changed_ways, each_once, first_bounds, names_heard, old_views, touched,
)
from deducehall.errors import BadLayer, NoSuch
from deducehall.joins import as_key
from deducehall.readers import read_rule
from deducehall.stores import Changes, laid_on, store_of


def changes_of(came="", went=""):
    changes = Changes()
    for name, row in oracle.facts_of(went):
        changes.note(name, row, False)
    for name, row in oracle.facts_of(came):
        changes.note(name, row, True)
    return changes


class Kept:
    """A Count over rules, a base of its own facts, and what is below it."""

    def __init__(self, name, rules, based="", below=""):
        self.name = name
        self.rules = oracle.rules_of(rules)
        self.base = store_of(oracle.facts_of(based))
        self.store = store_of(oracle.facts_of(below))
        self.count = Count(name, self.rules)
        self.count.count_all(self.store, self.base)

    def change(self, came="", went=""):
        """Take changes in: those of the name are the base's, the others are below; return what came and went of it."""
        based = Changes()
        changes = Changes()
        whole = changes_of(came, went)
        for name in whole.names():
            for row in whole.went(name):
                (based if name == self.name else changes).note(name, row, False)
            for row in whole.came(name):
                (based if name == self.name else changes).note(name, row, True)
        laid_on(self.base, based)
        laid_on(self.store, changes)
        answer = self.count.keep_up(self.store, based, changes)
        assert answer is None
        return tuple(sorted(changes.came(self.name), key=oracle.row_key)), \
            tuple(sorted(changes.went(self.name), key=oracle.row_key))

    def ways(self):
        return {row: self.count.ways_of(row) for row in self.count.rows()}


class NoteTest(unittest.TestCase):
    def test_ways_of_a_row(self):
        count = Count("p", ())
        self.assertEqual([count.ways_of((1,)), count.rows()], [0, []])
        self.assertEqual([count.note((1,), 1), count.note((1,), 1), count.ways_of((1,))], [1, 0, 2])
        self.assertEqual([count.note((2,), 1), count.note((1,), -1), count.rows()], [1, 0, [(1,), (2,)]])
        self.assertEqual([count.note((1,), -1), count.ways_of((1,)), count.rows()], [-1, 0, [(2,)]])

    def test_nought_and_below(self):
        count = Count("p", ())
        for row in ((1,), ("1",), ()):
            with self.assertRaises(NoSuch):
                count.note(row, -1)
        count.note((1,), 1)
        count.note((1,), -1)
        with self.assertRaises(NoSuch):
            count.note((1,), -1)
        self.assertEqual((count.rows(), count.ways_of((1,)), count.ways), ([], 0, {}))


class CountTest(unittest.TestCase):
    def test_fields(self):
        rules = oracle.rules_of("p(X) :- a(X), not b(X). q(X) :- c(X). p(count(X)) :- d(X).")
        count = Count("p", rules)
        self.assertEqual((count.name, list(count.rules)), ("p", [rules[0], rules[2]]))
        self.assertEqual(count.ways, {})
        self.assertEqual(sorted(count.heard), ["a", "b", "d", "p"])
        count.count_all(store_of(oracle.facts_of("d(1). d(2).")), store_of(()))
        self.assertEqual([ledger.rows() for ledger in count.ledgers.values()], [((2,),)])

    def test_a_name_that_asks_itself(self):
        for rules in ("p(X) :- p(X).", "p(X) :- a(X), not p(X).", "p(X) :- q(X). q(X) :- p(X).",
                      "p(X) :- q(X). q(X) :- r(X), a(X). r(X) :- p(X).", "p(count(X)) :- p(X)."):
            with self.assertRaises(BadLayer):
                Count("p", oracle.rules_of(rules))
        Count("p", oracle.rules_of("p(X) :- q(X). q(X) :- q(X), a(X)."))
        Count("p", oracle.rules_of("q(X) :- q(X)."))

    def test_names_heard(self):
        rules = oracle.rules_of("p(X) :- a(X), not b(X), X < 3. q :- p(1).")
        self.assertEqual(sorted(names_heard(["r", "p"], rules)), ["a", "b", "p", "r"])
        self.assertEqual(sorted(names_heard([], ())), [])

    def test_count_all(self):
        kept = Kept("p", """p(X) :- a(X, Y). p(X) :- b(X), not c(X, Z). p(count(Y)) :- a(1, Y). p(Y) :- a(X, Y).
                            r(X) :- p(X).""", "p(1). p(7). r(5).", "a(1, 2). a(1, 3). a(2, 1). b(1). b(4). c(4, 4).")
        self.assertEqual(kept.ways(), {(1,): 5, (7,): 1, (2,): 3, (3,): 1})
        self.assertEqual(kept.store.of("p").rows(), ((1,), (2,), (3,), (7,)))
        self.assertEqual(kept.store.of("r").rows(), ())


class KeepUpTest(unittest.TestCase):
    def test_a_fact_that_rules_tell_too(self):
        kept = Kept("p", "p(X) :- a(X). p(X) :- b(X).", "p(1).", "a(1). b(1).")
        self.assertEqual(kept.ways(), {(1,): 3})
        self.assertEqual(kept.change("", "p(1)."), ((), ()))
        self.assertEqual(kept.change("", "a(1)."), ((), ()))
        self.assertEqual(kept.change("", "b(1)."), ((), ((1,),)))
        self.assertEqual((kept.ways(), kept.store.of("p").rows()), ({}, ()))
        self.assertEqual(kept.change("p(1)."), (((1,),), ()))
        self.assertEqual(kept.change("a(1).", "p(1)."), ((), ()))
        self.assertEqual(kept.store.of("p").rows(), ((1,),))

    def test_several_bindings_of_one_rule(self):
        kept = Kept("p", "p(X) :- a(X, Y), b(Y).", "", "a(1, 1). a(1, 2). a(2, 2). b(1). b(2).")
        self.assertEqual(kept.ways(), {(1,): 2, (2,): 1})
        self.assertEqual(kept.change("", "b(2)."), ((), ((2,),)))
        self.assertEqual(kept.change("b(2). a(3, 1).", "a(2, 2)."), (((3,),), ()))
        self.assertEqual(kept.ways(), {(1,): 2, (3,): 1})

    def test_ways_that_rise_and_fall_within_one_change(self):
        kept = Kept("p", "p(X) :- a(X, Y). p(X) :- b(X).", "", "a(1, 1). b(2).")
        self.assertEqual(kept.change("a(1, 2).", "a(1, 1)."), ((), ()))
        self.assertEqual(kept.ways(), {(1,): 1, (2,): 1})
        self.assertEqual(kept.change("b(1). a(2, 2).", "a(1, 2). b(2)."), ((), ()))
        self.assertEqual(kept.change("p(1).", "b(1). a(2, 2)."), ((), ((2,),)))

    def test_a_summed_rule(self):
        kept = Kept("p", "p(X, sum(Y)) :- a(X, Y). p(X, Y) :- b(X, Y).", "p(1, 5).", "a(1, 2). a(1, 3). b(1, 5).")
        self.assertEqual(kept.ways(), {(1, 5): 3})
        self.assertEqual(kept.change("a(1, 1)."), (((1, 6),), ()))
        self.assertEqual(kept.change("a(1, w)."), ((), ((1, 6),)))
        self.assertEqual(kept.change("a(2, 4). a(1, -1).", "a(1, w). a(1, 3)."), (((1, 2), (2, 4)), ()))
        self.assertEqual(kept.change("", "a(1, 1). a(1, 2). a(1, -1). p(1, 5)."), ((), ((1, 2),)))
        self.assertEqual(kept.ways(), {(1, 5): 1, (2, 4): 1})

    def test_a_sum_that_stays(self):
        kept = Kept("p", "p(count(Y)) :- a(Y).", "", "a(1). a(2).")
        self.assertEqual(kept.change("a(3).", "a(1)."), ((), ()))
        self.assertEqual(kept.change("a(1)."), (((3,),), ((2,),)))

    def test_a_name_that_two_parts_ask_both_changed(self):
        kept = Kept("p", "p(X, Z) :- a(X, Y), a(Y, Z).", "", "a(1, 1). a(1, 2).")
        self.assertEqual(kept.ways(), {(1, 1): 1, (1, 2): 1})
        self.assertEqual(kept.change("a(2, 1).", "a(1, 1)."), (((2, 2),), ((1, 2),)))
        self.assertEqual(kept.ways(), {(1, 1): 1, (2, 2): 1})
        self.assertEqual(kept.change("a(1, 1). a(2, 2).")[0], ((1, 2), (2, 1)))
        self.assertEqual(kept.ways(), {(1, 1): 2, (1, 2): 2, (2, 1): 2, (2, 2): 2})

    def test_nots_whose_names_changed(self):
        kept = Kept("p", "p(X) :- a(X), not b(X, Z).", "", "a(1). a(2). b(1, 1). b(1, 2).")
        self.assertEqual(kept.change("b(2, 9)."), ((), ((2,),)))
        self.assertEqual(kept.change("", "b(1, 1)."), ((), ()))
        self.assertEqual(kept.change("", "b(1, 2)."), (((1,),), ()))
        self.assertEqual(kept.change("b(1, 5).", "b(2, 9)."), (((2,),), ((1,),)))
        self.assertEqual(kept.change("b(2, 3).", "a(2)."), ((), ((2,),)))
        self.assertEqual(kept.change("a(2).", "b(2, 3)."), (((2,),), ()))
        self.assertEqual(kept.ways(), {(2,): 1})

    def test_a_name_asked_for_and_against(self):
        kept = Kept("p", "p(X) :- a(X, Y), not a(Y, X).", "", "a(1, 2). a(2, 1). a(3, 1).")
        self.assertEqual(kept.change("", "a(2, 1)."), (((1,),), ()))
        self.assertEqual(kept.change("a(2, 1). a(1, 3)."), ((), ((1,), (3,))))

    def test_reckonings_and_tests(self):
        kept = Kept("p", "p(Z) :- a(X, Y), Z := X + Y, Z < 9, not b(Z).", "", "a(1, 2). a(2, 1). a(4, 4). a(9, 9).")
        self.assertEqual(kept.ways(), {(3,): 2, (8,): 1})
        self.assertEqual(kept.change("b(3)."), ((), ((3,),)))
        self.assertEqual(kept.change("a(0, 8). a(x, 8). b(8).", "b(3). a(1, 2)."), (((3,),), ((8,),)))

    def test_what_did_not_change(self):
        kept = Kept("p", "p(X) :- a(X).", "p(2).", "a(1). c(1).")
        self.assertEqual(kept.change("c(5).", "c(1)."), ((), ()))
        self.assertEqual(kept.change(), ((), ()))

    def test_some_changes(self):
        for seed in range(150):
            chosen = random.Random(seed)
            rules = [rule for rule in oracle.drawn_rules(chosen, 8) if rule.name == "p" and "p" not in rule.asked("pos")]
            count = Count("p", rules)
            base, store = store_of(()), store_of(())
            count.count_all(store, base)
            for _ in range(6):
                based, changes = Changes(), Changes()
                for name, row, came in oracle.drawn_steps(
                        chosen, 3, lambda name, row: (base if name == "p" else store).has(name, row)):
                    (based if name == "p" else changes).note(name, row, came)
                laid_on(base, based)
                laid_on(store, changes)
                before = store.of("p").rows()
                count.keep_up(store, based, changes)
                other = Count("p", rules)
                anew = store.twin()
                anew.of("p").held.clear()
                other.count_all(anew, base)
                self.assertEqual(count.ways, other.ways, seed)
                self.assertEqual(store.shown(), anew.shown())
                after = set(count.rows())
                self.assertEqual(set(changes.came("p")), after - set(before))
                self.assertEqual(set(changes.went("p")), set(before) - after)


class ToldByTest(unittest.TestCase):
    def test_those_that_go_first(self):
        kept = Kept("p", "p(X, Y) :- a(X, Y). p(X, sum(Y)) :- b(X, Y).", "", "b(1, 2). b(1, 3). b(2, 2).")
        steps = [(1, {"X": 1, "Y": 9}), (-1, {"X": 2, "Y": 8}), (1, {"X": 3, "Y": 7})]
        self.assertEqual(kept.count.told_by(0, kept.rules[0], steps), [(-1, (2, 8)), (1, (1, 9)), (1, (3, 7))])
        steps = [(1, {"X": 1, "Y": 5}), (-1, {"X": 1, "Y": 2}), (-1, {"X": 2, "Y": 2}), (1, {"X": 4, "Y": 4})]
        self.assertEqual(kept.count.told_by(1, kept.rules[1], steps),
                         [(-1, (1, 5)), (-1, (2, 2)), (1, (1, 8)), (1, (4, 4))])


class ChangedWaysTest(unittest.TestCase):
    def ways(self, text, facts, came="", went=""):
        store = store_of(oracle.facts_of(facts))
        changes = changes_of(came, went)
        laid_on(store, changes)
        return changed_ways(read_rule(text), store, changes)

    def test_each_binding_once(self):
        self.assertEqual(self.ways("p :- a(X), a(Y).", "a(1).", "a(2)."), [
            (1, {"X": 2, "Y": 1}), (1, {"X": 2, "Y": 2}), (1, {"X": 1, "Y": 2})])
        self.assertEqual(self.ways("p :- a(X), b(X).", "a(1). b(1).", "", "a(1). b(1)."), [(-1, {"X": 1})])
        self.assertEqual(self.ways("p :- a(X), not b(X, Z).", "a(1).", "b(1, 2). b(1, 3)."), [(-1, {"X": 1})])
        self.assertEqual(self.ways("p :- a(X), not b(X, Z).", "a(1). b(1, 2). b(1, 3).", "", "b(1, 2). b(1, 3)."),
                         [(1, {"X": 1})])
        self.assertEqual(self.ways("p :- a(X), not b(X, Z).", "a(1). b(1, 2).", "b(1, 3).", "b(1, 2)."), [])
        self.assertEqual(self.ways("p :- a(X), c(X).", "a(1).", "c(2)."), [])

    def test_old_views(self):
        store = store_of(oracle.facts_of("a(1). b(2). c(3)."))
        rule = read_rule("p :- a(X), c(Y), not b(X), X < Y, a(Y).")
        views = old_views(rule, store, changes_of("a(1). b(2).", "b(9)."))
        self.assertEqual({number: view.rows() for number, view in views.items()}, {0: (), 2: ((9,),), 4: ()})
        self.assertEqual(old_views(rule, store, Changes()), {})

    def test_touched(self):
        store = store_of(oracle.facts_of("a(1, 2). a(1, 3). a(4, 2). b(2). b(3)."))
        rule = read_rule("p :- a(X, Y), b(Y), not c(X, Z).")
        rows = sorted(bound["Y"] for bound in touched(rule, 0, store, {}, [(1, 2), (1, 3), (5, 5)]))
        self.assertEqual(rows, [2, 3])
        self.assertEqual(sorted(bound["X"] for bound in touched(rule, 1, store, {}, [(2,)])), [1, 4])
        self.assertEqual(sorted(bound["Y"] for bound in touched(rule, 2, store, {}, [(1, 7), (1, 8)])), [2, 3])
        own = {2: store_of([("c", (1, 1))]).of("c")}
        self.assertEqual(touched(rule, 2, store, own, [(1, 7)]), [])
        self.assertEqual(touched(rule, 0, store, {}, []), [])


class BoundsTest(unittest.TestCase):
    def test_bound_by(self):
        rule = read_rule("p(X) :- a(X, 1, Y), not b(X, Z, Z).")
        self.assertEqual(bound_by(rule, 0, (5, 1, "w")), {"X": 5, "Y": "w"})
        self.assertIs(bound_by(rule, 0, (5, 2, "w")), None)
        self.assertIs(bound_by(rule, 0, (5, 1)), None)
        self.assertEqual(bound_by(rule, 1, (5, 2, 2)), {"X": 5})
        self.assertIs(bound_by(rule, 1, (5, 2, 3)), None)
        self.assertEqual(bound_by(read_rule("p :- not b(Z)."), 0, (5,)), {})

    def test_first_bounds(self):
        rule = read_rule("p(X) :- a(X, 1), not b(X, Z).")
        self.assertEqual(first_bounds(rule, 0, [(5, 1), (5, 2), (6, 1)]), [{"X": 5}, {"X": 6}])
        self.assertEqual(first_bounds(rule, 1, [(5, 1), (5, 2), ("5", 1)]), [{"X": 5}, {"X": "5"}])
        self.assertEqual(first_bounds(rule, 1, []), [])

    def test_each_once(self):
        rule = read_rule("p(X) :- a(X), not b(X, Z).")
        bounds = each_once(rule, [{"X": 1, "Z": 1}, {"X": 1, "Z": 2}, {"X": 2}, {"X": "1"}])
        self.assertEqual([as_key(rule, bound) for bound in bounds], [(1,), (2,), ("1",)])


if __name__ == "__main__":
    unittest.main()
