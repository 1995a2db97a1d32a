"""Kinds, [9]: one count of places for a name, the least table of kinds, rules that never tell a row."""

import unittest

from deducehall.errors import BadKind
from deducehall.kinds import (
    Places, both, head_kinds, joined, kind_of, kinds_told, lets_through, name_kinds, never, places_of, start_kinds,
)
from deducehall.readers import read, read_rule
from deducehall.safety import parted


def split(text):
    facts, rules = parted([clause.rule for clause in read(text)])
    return rules, facts


def told_of(text):
    rules, facts = split(text)
    return dict(kinds_told(rules, facts))


class PlacesTest(unittest.TestCase):
    def test_meet(self):
        places = Places()
        self.assertEqual(places.many, {})
        self.assertIsNone(places.count_of("p"))
        places.meet("p", 2)
        places.meet("p", 2)
        places.meet("a", 0)
        self.assertEqual((places.count_of("p"), places.count_of("a")), (2, 0))
        self.assertEqual(places.shown(), (("a", 0), ("p", 2)))
        for name, count in (("p", 1), ("p", 3), ("p", 0), ("a", 1)):
            with self.assertRaises(BadKind):
                places.meet(name, count)
        self.assertEqual(places.shown(), (("a", 0), ("p", 2)))

    def test_meet_rule(self):
        places = Places()
        places.meet_rule(read_rule("p(X, count(Y)) :- q(X), not r(X, Y, Z), s, X < Y, Z := X + Y."))
        self.assertEqual(places.shown(), (("p", 2), ("q", 1), ("r", 3), ("s", 0)))

    def test_a_refused_rule_keeps_nothing(self):
        for text in ("n(X) :- m(X), p(X, Y).", "n(X) :- m(X), not p(X, Y).", "p :- n, m.", "n(X) :- n(X, Y), m.",
                     "n(X) :- m(X), not m(X, X).", "n :- m(X), m(X, Y).", "n :- n(X)."):
            places = Places()
            places.meet("p", 1)
            with self.assertRaises(BadKind, msg=text):
                places.meet_rule(read_rule(text))
            self.assertEqual(places.shown(), (("p", 1),))
            self.assertIsNone(places.count_of("n"))

    def test_places_of(self):
        rules, facts = split("p(X) :- q(X, Y). r(1, 2, 3). s. t(X) :- r(X, Y, Z), not u.")
        self.assertEqual(places_of(rules, facts).shown(), (("p", 1), ("q", 2), ("r", 3), ("s", 0), ("t", 1), ("u", 0)))
        self.assertEqual(places_of([], []).shown(), ())

    def test_two_counts(self):
        for text in ("p(1). p(1, 2).", "p(X) :- q(X). q(1, 2).", "p(X) :- q(X). r :- p(X, Y), q(Y).", "p. p(1)."):
            rules, facts = split(text)
            for ask in (places_of, kinds_told, never):
                with self.assertRaises(BadKind, msg=text):
                    ask(rules, facts)


class KindsTest(unittest.TestCase):
    def test_single_kinds(self):
        self.assertEqual((kind_of(0), kind_of(-5), kind_of(""), kind_of("1")), ("n", "n", "w", "w"))
        kinds = ("", "n", "w", "nw")
        self.assertEqual([joined(one, other) for one in kinds for other in kinds], [
            "", "n", "w", "nw", "n", "n", "nw", "nw", "w", "nw", "w", "nw", "nw", "nw", "nw", "nw"])
        self.assertEqual([both(one, other) for one in kinds for other in kinds], [
            "", "", "", "", "", "n", "", "n", "", "", "w", "w", "", "n", "w", "nw"])

    def test_start_kinds(self):
        rules, facts = split("p(1, a). p(b, c). q(X) :- p(X, Y). r.")
        table = start_kinds(facts, rules)
        self.assertIsInstance(table, dict)
        self.assertEqual((table[("p", 0)], table[("p", 1)]), ("nw", "w"))
        self.assertEqual(table.get(("q", 0), ""), "")
        self.assertEqual([kinds for key, kinds in table.items() if key[0] == "r"], [])

    def test_name_kinds(self):
        rule = read_rule("p(X, H) :- q(X, Y), r(X), not s(Y, N), Y < T.")
        table = {("q", 0): "nw", ("q", 1): "w", ("r", 0): "n", ("s", 0): "n", ("s", 1): "n", ("p", 0): "", ("p", 1): ""}
        self.assertEqual(name_kinds(rule, table), {"X": "n", "H": "nw", "Y": "w", "N": "nw", "T": "nw"})
        table[("r", 0)] = "w"
        self.assertEqual(name_kinds(rule, table)["X"], "w")
        table[("q", 0)] = "n"
        self.assertEqual(name_kinds(rule, table)["X"], "")

    def test_what_is_reckoned_is_a_number(self):
        rule = read_rule("p(X) :- q(Y), X := Y + 1.")
        self.assertEqual(name_kinds(rule, {("q", 0): "n", ("p", 0): ""}), {"X": "n", "Y": "n"})

    def test_lets_through(self):
        for text, table, found in (
                ("p(X) :- q(X).", {("q", 0): "n"}, True),
                ("p(X) :- q(X).", {("q", 0): ""}, False),
                ("p(X) :- q(X), r(X).", {("q", 0): "n", ("r", 0): "w"}, False),
                ("p(X) :- q(X, 1).", {("q", 0): "w", ("q", 1): "n"}, True),
                ("p(X) :- q(X, 1).", {("q", 0): "w", ("q", 1): "w"}, False),
                ("p(X) :- q(X, a).", {("q", 0): "w", ("q", 1): "n"}, False),
                ("p(X) :- q(X), not r(X), not r(a).", {("q", 0): "n", ("r", 0): ""}, True),
                ("p(X) :- q(X), X < a, 1 = b.", {("q", 0): "n"}, True),
                ("p(X) :- q(Y), X := Y + 1.", {("q", 0): "nw"}, True),
                ("p(X) :- q(Y), X := Y + 1.", {("q", 0): "w"}, False),
                ("p(X) :- q(Y), X := 1 - Y.", {("q", 0): "w"}, False),
                ("p(X) :- q(Y), X := 1 + a.", {("q", 0): "n"}, False),
                ("p(X) :- q(Y), X := 1 + 2.", {("q", 0): "w"}, True),
                ("p :- q.", {}, True)):
            rule = read_rule(text)
            self.assertIs(lets_through(rule, table, name_kinds(rule, table)), found, text)

    def test_head_kinds(self):
        found = {"X": "nw", "Y": "w"}
        for text, kinds in (
                ("p(X, 1, a, Y) :- q(X, Y).", ["nw", "n", "w", "w"]), ("p(count(Y), X) :- q(X, Y).", ["n", "nw"]),
                ("p(X, sum(Y)) :- q(X, Y).", ["nw", "n"]), ("p(least(Y)) :- q(X, Y).", ["w"]),
                ("p(most(X)) :- q(X, Y).", ["nw"]), ("p :- q(X, Y).", [])):
            self.assertEqual(head_kinds(read_rule(text), found), kinds, text)


class LeastTableTest(unittest.TestCase):
    def test_in_order_and_all_names(self):
        rules, facts = split("z(1). p(X) :- q(X), not b(X). a. a :- c.")
        self.assertEqual(kinds_told(rules, facts), (
            ("a", ()), ("b", ("",)), ("c", ()), ("p", ("",)), ("q", ("",)), ("z", ("n",))))
        self.assertEqual(kinds_told([], []), ())

    def test_over_rules_and_rings(self):
        found = told_of("e(1, a). e(2, 3). p(X, Y) :- e(X, Y). p(X, Z) :- p(X, Y), e(Y, Z)."
                        " q(Y, X) :- p(X, Y). r(Y) :- q(Y, Y).")
        self.assertEqual(found["p"], ("n", "nw"))
        self.assertEqual(found["q"], ("nw", "n"))
        self.assertEqual(found["r"], ("n",))

    def test_the_least(self):
        self.assertEqual(told_of("p(X) :- q(X). q(X) :- p(X)."), {"p": ("",), "q": ("",)})
        self.assertEqual(told_of("p(X) :- q(X). q(X) :- p(X). q(a)."), {"p": ("w",), "q": ("w",)})
        self.assertEqual(told_of("q(1). r(a). p(X) :- q(X), r(X).")["p"], ("",))
        self.assertEqual(told_of("q(1). r(a). p(X) :- q(X), r(Y).")["p"], ("n",))
        self.assertEqual(told_of("q(1). q(a). r(a). p(X) :- q(X), r(X).")["p"], ("w",))

    def test_a_body_that_may_not_hold_tells_no_place(self):
        found = told_of("q(1). p(X, 1, a) :- q(X), r(Y). s(X, 1) :- q(X), q(a). t(X) :- q(X), Y := X + a.")
        self.assertEqual((found["p"], found["s"], found["t"]), (("", "", ""), ("", ""), ("",)))

    def test_through_tests_nots_reckonings_and_sums(self):
        found = told_of("q(1). q(a). r(b). p1(X) :- q(X), X < 5. p2(X) :- q(X), not r(X). p3(Y) :- q(X), Y := X * 2."
                        " p4(count(X)) :- r(X). p5(sum(X)) :- r(X). p6(least(X)) :- r(X). p7(most(X)) :- q(X)."
                        " p8(X, count(Y)) :- r(X), q(Y). p9(Y) :- r(X), Y := X + 1.")
        self.assertEqual([found[f"p{number}"] for number in range(1, 10)], [
            ("nw",), ("nw",), ("n",), ("n",), ("n",), ("w",), ("nw",), ("w", "n"), ("",)])

    def test_values_in_heads(self):
        self.assertEqual(told_of("p(1, X) :- q(X). p(a, X) :- q(X). q(2).")["p"], ("nw", "n"))

    def test_names_without_places(self):
        self.assertEqual(told_of("p(1) :- q. r(a) :- not q."), {"p": ("n",), "q": (), "r": ("w",)})


class NeverTest(unittest.TestCase):
    def test_numbers(self):
        rules, facts = split("q(1). r(a). p(X) :- q(X). p(X) :- q(X), r(X). p(X) :- s(X). p(X) :- q(X), q(b)."
                             " p(Y) :- r(X), Y := X + 1. p(X) :- r(X), X < 1. p(X) :- q(X), not r(X). t :- u.")
        self.assertEqual(never(rules, facts), (1, 2, 3, 4))
        self.assertEqual(never([], []), ())

    def test_by_way_of_others(self):
        rules, facts = split("p(X) :- q(X). q(X) :- p(X). r(X) :- q(X). s(X) :- e(X). t(a) :- s(a). t(1) :- s(1)."
                             " e(2).")
        self.assertEqual(never(rules, facts), (0, 1, 2, 4))

    def test_by_the_whole_table(self):
        rules, facts = split("p(X) :- q(X, a). q(X, Y) :- e(X, Y). e(1, 2). e(2, Y) :- f(Y). f(b).")
        self.assertEqual(never(rules, facts), ())


if __name__ == "__main__":
    unittest.main()
