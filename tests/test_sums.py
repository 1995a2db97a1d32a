"""Sums, [15]: groups, counts, sums, least and most, bindings each once, what is refused."""

import random
import unittest

import oracle
from deducehall.errors import NoSuch
from deducehall.readers import read_rule
from deducehall.rules import summed_rule, pos
from deducehall.sums import Group, Ledger, ledger_of, summed, summed_rows
from deducehall.terms import var

MOST = 999999999999999999
KINDS = ("count", "sum", "least", "most")


def group_of(values):
    group = Group()
    for value in values:
        group.bring(value, 1)
    return group


def told(values):
    group = group_of(values)
    return tuple(group.told(kind) for kind in KINDS)


class GroupTest(unittest.TestCase):
    def test_fields(self):
        group = group_of([3, "w", 3])
        self.assertEqual((group.often, group.many), ({3: 2, "w": 1}, 3))
        self.assertEqual((group_of([3, -1]).whole, Group().whole, Group().often, Group().many), (2, 0, {}, 0))

    def test_what_is_told(self):
        self.assertEqual(told([4, -7, 4]), (3, 1, -7, 4))
        self.assertEqual(told([5]), (1, 5, 5, 5))
        self.assertEqual(told([0]), (1, 0, 0, 0))
        self.assertEqual(told([]), (None, None, None, None))

    def test_words_are_not_summed(self):
        self.assertEqual(told([4, "w", "ab"]), (3, None, 4, "w"))
        self.assertEqual(told(["w"]), (1, None, "w", "w"))
        group = group_of([4, "w", "w", 6])
        group.bring("w", -1)
        self.assertIs(group.told("sum"), None)
        group.bring("w", -1)
        self.assertEqual([group.told(kind) for kind in KINDS], [2, 10, 4, 6])

    def test_numbers_stand_ahead_of_words(self):
        self.assertEqual(told(["a", 99, "1", -5])[2:], (-5, "a"))
        self.assertEqual(told([1, "1"])[2:], (1, "1"))

    def test_eighteen_and_nineteen_figures(self):
        group = group_of([MOST])
        self.assertEqual(group.told("sum"), MOST)
        group.bring(1, 1)
        self.assertIs(group.told("sum"), None)
        group.bring(1, 1)
        group.bring(-2, 1)
        self.assertEqual(group.told("sum"), MOST)
        group.bring(1, -1)
        self.assertEqual([group.told(kind) for kind in KINDS], [3, MOST - 1, -2, MOST])
        self.assertIs(group_of([-MOST, -1]).told("sum"), None)
        self.assertEqual(group_of([-MOST]).told("sum"), -MOST)

    def test_the_least_and_the_most_gone(self):
        group = group_of([1, 5, 5, 9])
        group.bring(1, -1)
        group.bring(9, -1)
        self.assertEqual([group.told(kind) for kind in KINDS], [2, 10, 5, 5])
        group.bring(5, -1)
        self.assertEqual([group.told(kind) for kind in KINDS], [1, 5, 5, 5])
        group.bring(5, -1)
        self.assertEqual([group.told(kind) for kind in KINDS], [None] * 4)
        self.assertEqual((group.often, group.many, group.whole), ({}, 0, 0))

    def test_what_is_not_there_is_refused(self):
        group = group_of([1, 2])
        for value in (3, "1", "w"):
            with self.assertRaises(NoSuch):
                group.bring(value, -1)
        self.assertEqual((group.often, group.many, group.whole), ({1: 1, 2: 1}, 2, 3))
        with self.assertRaises(NoSuch):
            Group().bring(0, -1)


class LedgerTest(unittest.TestCase):
    def test_fields(self):
        rule = read_rule("p(X, sum(Y)) :- a(X, Y).")
        ledger = Ledger(rule)
        self.assertIs(ledger.rule, rule)
        self.assertEqual((len(ledger.groups), len(ledger.brought), ledger.rows()), (0, 0, ()))
        ledger.bring({"X": 1, "Y": 2}, 1)
        self.assertEqual((list(ledger.groups), len(ledger.brought)), ([(1,)], 1))

    def test_groups(self):
        bound = {"X": 1, "Y": "w", "Z": 3}
        self.assertEqual(Ledger(read_rule("p(X, sum(Y), Z) :- a(X, Y, Z).")).group_of(bound), (1, 3))
        self.assertEqual(Ledger(read_rule("p(count(Y), 7, Y) :- a(X, Y).")).group_of(bound), (7, "w"))
        self.assertEqual(Ledger(read_rule("p(most(X)) :- a(X).")).group_of(bound), ())

    def test_bring_returns_the_group_and_rows_follow(self):
        ledger = Ledger(read_rule("p(X, sum(Y), X) :- a(X, Y, Z)."))
        self.assertEqual(ledger.bring({"X": 1, "Y": 2, "Z": 1}, 1), (1, 1))
        self.assertEqual(ledger.bring({"X": 1, "Y": 2, "Z": 2}, 1), (1, 1))
        self.assertEqual(ledger.bring({"X": "a", "Y": -9, "Z": 2}, 1), ("a", "a"))
        self.assertEqual(ledger.row_of((1, 1)), (1, 4, 1))
        self.assertEqual(ledger.rows(), ((1, 4, 1), ("a", -9, "a")))
        self.assertEqual(ledger.bring({"X": 1, "Y": 2, "Z": 1}, -1), (1, 1))
        self.assertEqual(ledger.rows(), ((1, 2, 1), ("a", -9, "a")))

    def test_the_last_binding_of_a_group_gone(self):
        ledger = ledger_of(read_rule("p(X, count(Y)) :- a(X, Y)."), [{"X": 1, "Y": 2}, {"X": 3, "Y": 2}])
        ledger.bring({"X": 1, "Y": 2}, -1)
        self.assertEqual((ledger.row_of((1,)), ledger.rows()), (None, ((3, 1),)))
        self.assertIs(ledger.row_of((9,)), None)
        ledger.bring({"X": 1, "Y": 2}, 1)
        self.assertEqual(ledger.rows(), ((1, 1), (3, 1)))

    def test_one_value_brought_by_several_bindings(self):
        rule = read_rule("p(sum(Y)) :- a(X, Y).")
        ledger = ledger_of(rule, [{"X": 1, "Y": 5}, {"X": 2, "Y": 5}])
        self.assertEqual(ledger.rows(), ((10,),))
        ledger.bring({"X": 1, "Y": 5}, -1)
        self.assertEqual(ledger.rows(), ((5,),))

    def test_brought_twice_or_not_there_is_refused(self):
        ledger = ledger_of(read_rule("p(X, sum(Y)) :- a(X, Y)."), [{"X": 1, "Y": 5}])
        for bound, way in (({"X": 1, "Y": 5}, 1), ({"X": 1, "Y": 6}, -1), ({"X": 2, "Y": 5}, -1),
                           ({"X": 1, "Y": "5"}, -1)):
            with self.assertRaises(NoSuch):
                ledger.bring(bound, way)
            self.assertEqual((ledger.rows(), len(ledger.groups), len(ledger.brought)), (((1, 5),), 1, 1))

    def test_names_left_open_are_no_part_of_a_binding(self):
        rule = read_rule("p(count(X)) :- a(X), not b(X, Z).")
        ledger = ledger_of(rule, [{"X": 1, "Z": 1}, {"X": 1, "Z": 2}, {"X": 1}, {"X": 2}])
        self.assertEqual(ledger.rows(), ((2,),))
        with self.assertRaises(NoSuch):
            ledger.bring({"X": 1, "Z": 3}, 1)

    def test_bindings_told_twice(self):
        rule = read_rule("p(X, count(Y)) :- a(X, Y).")
        ledger = ledger_of(rule, [{"X": 1, "Y": 2}, {"Y": 2, "X": 1}, {"X": 1, "Y": 3}])
        self.assertEqual(ledger.rows(), ((1, 2),))
        self.assertEqual(ledger_of(rule, []).rows(), ())

    def test_a_group_that_tells_nothing(self):
        ledger = ledger_of(read_rule("p(X, sum(Y)) :- a(X, Y)."),
                           [{"X": 1, "Y": "w"}, {"X": 1, "Y": 4}, {"X": 2, "Y": MOST}, {"X": 2, "Y": 1}])
        self.assertEqual((ledger.row_of((1,)), ledger.row_of((2,)), ledger.rows()), (None, None, ()))
        ledger.bring({"X": 1, "Y": "w"}, -1)
        ledger.bring({"X": 2, "Y": 1}, -1)
        self.assertEqual(ledger.rows(), ((1, 4), (2, MOST)))


class SummedTest(unittest.TestCase):
    def test_summed_rows(self):
        rule = read_rule("p(most(Y), X) :- a(X, Y, Z).")
        bounds = [{"X": "b", "Y": 1, "Z": 1}, {"X": "b", "Y": "w", "Z": 2}, {"X": 7, "Y": -1, "Z": 1}]
        self.assertEqual(summed_rows(rule, bounds + bounds), [(-1, 7), ("w", "b")])
        self.assertEqual(summed_rows(rule, []), [])

    def test_summed(self):
        for kind, answer in zip(KINDS, (3, 5, -1, 3)):
            self.assertEqual(summed(kind, [3, 3, -1]), answer)
            self.assertIs(summed(kind, []), None)
        self.assertIs(summed("sum", ["w", 1]), None)
        self.assertIs(summed("sum", [MOST, MOST]), None)
        self.assertEqual(summed("sum", [MOST, MOST, -MOST]), MOST)

    def test_bindings_that_come_and_go(self):
        for seed in range(60):
            chosen = random.Random(seed)
            place = chosen.randrange(2)
            rule = summed_rule("p", [var("X"), var("Y")], [pos("a", [var("X"), var("Y"), var("Z")])],
                               place, chosen.choice(KINDS))
            ledger = Ledger(rule)
            here = {}
            for _ in range(40):
                row = tuple(chosen.choice((1, 2, MOST, "w")) for _ in range(3))
                bound = dict(zip("XYZ", row))
                if here.pop(row, None) is None:
                    here[row] = bound
                    ledger.bring(bound, 1)
                else:
                    ledger.bring(bound, -1)
                wanted = oracle.told_by(rule, {"a": set(here)})
                self.assertEqual(ledger.rows(), tuple(sorted(wanted, key=oracle.row_key)))
                self.assertEqual(summed_rows(rule, list(here.values())), list(ledger.rows()))

    def test_values_in_the_head(self):
        self.assertEqual(summed_rows(read_rule("p(2, least(X), b) :- a(X)."), [{"X": 4}, {"X": 3}]), [(2, 3, "b")])


if __name__ == "__main__":
    unittest.main()
