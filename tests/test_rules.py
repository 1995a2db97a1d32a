"""Rules, [7] and [34]: literals, rules that are one but for names, made plain, repeats, reckoning."""

import unittest

from deducehall.errors import BadRule
from deducehall.readers import read_rule, told_rule
from deducehall.rules import (
    DEEDS, MOST, SIGNS, SUMS, Literal, Rule, bounded, held, let, names_of, neg, pos, reckoned, same_rule, summed_rule,
    told_by, without_repeats,
)
from deducehall.terms import shown_all, val, var

X, Y, Z = var("X"), var("Y"), var("Z")


class ConstantsTest(unittest.TestCase):
    def test_values(self):
        self.assertEqual(SUMS, ("count", "sum", "least", "most"))
        self.assertEqual(SIGNS, ("<", "<=", "=", "!="))
        self.assertEqual(DEEDS, ("+", "-", "*"))
        self.assertEqual(MOST, 10 ** 18 - 1)


class LiteralTest(unittest.TestCase):
    def test_fields(self):
        literal = Literal("pos", "p", [Y, val("X"), X, Y])
        self.assertEqual((literal.kind, literal.name), ("pos", "p"))
        self.assertIsInstance(literal.terms, tuple)
        self.assertEqual(shown_all(literal.terms), (("var", "Y"), ("val", "X"), ("var", "X"), ("var", "Y")))
        self.assertTrue(hasattr(literal, "own"))

    def test_names_by_first_places(self):
        self.assertEqual(Literal("neg", "p", (Y, val("Z"), X, Y)).names(), ("Y", "X"))
        self.assertEqual(Literal("pos", "p", ()).names(), ())

    def test_shown(self):
        self.assertEqual(pos("p", (X, val(1))).shown(), ("pos", "p", (("var", "X"), ("val", 1))))
        self.assertEqual(neg("p", ()).shown(), ("neg", "p", ()))
        self.assertEqual(held("<=", X, val(1)).shown(), ("cmp", "<=", (("var", "X"), ("val", 1))))
        self.assertEqual(let(X, "-", Y, val(1)).shown(), ("let", "-", (("var", "X"), ("var", "Y"), ("val", 1))))

    def test_with_names(self):
        literal = pos("p", (X, Y, val("X")))
        self.assertEqual(literal.with_names({"X": "Y", "Y": "X"}).shown(),
                         ("pos", "p", (("var", "Y"), ("var", "X"), ("val", "X"))))
        self.assertEqual(literal.with_names({"X": "Y", "Y": "X"}).names(), ("Y", "X"))
        self.assertEqual(literal.names(), ("X", "Y"))

    def test_each_sign_and_no_other(self):
        for sign in SIGNS:
            self.assertEqual(held(sign, X, Y).name, sign)
        for sign in ("", ">", ">=", "==", ":=", "+", "<=="):
            with self.assertRaises(BadRule):
                held(sign, X, Y)

    def test_each_deed_and_no_other(self):
        for deed in DEEDS:
            self.assertEqual(let(X, deed, Y, Z).name, deed)
        for deed in ("", "/", "=", "<", "**", ":="):
            with self.assertRaises(BadRule):
                let(X, deed, Y, Z)

    def test_what_is_reckoned_is_a_variable(self):
        for target in (val(1), val("X")):
            with self.assertRaises(BadRule):
                let(target, "+", X, Y)


class RuleTest(unittest.TestCase):
    def setUp(self):
        body = [pos("q", [Y, X]), neg("r", [Z]), pos("q", [X]), held("<", X, Y), pos("a", []), neg("q", [X])]
        self.rule = Rule("p", [X, val(1)], body)

    def test_fields(self):
        self.assertEqual(self.rule.name, "p")
        self.assertIsInstance(self.rule.terms, tuple)
        self.assertIsInstance(self.rule.body, tuple)
        self.assertIsNone(self.rule.summed)
        self.assertTrue(hasattr(self.rule, "stands"))
        self.assertEqual(shown_all(self.rule.terms), (("var", "X"), ("val", 1)))
        self.assertEqual([part.kind for part in self.rule.body], ["pos", "neg", "pos", "cmp", "pos", "neg"])
        self.assertEqual(Rule("p", (X,), (), (0, "count")).summed, (0, "count"))

    def test_names_the_heads_first(self):
        self.assertEqual(self.rule.names(), ("X", "Y", "Z"))
        self.assertEqual(Rule("p", [Z], [pos("q", [Y, Z, X])]).names(), ("Z", "Y", "X"))
        self.assertEqual(Rule("p", [], []).names(), ())

    def test_asked(self):
        self.assertEqual(self.rule.asked("pos"), ("q", "a"))
        self.assertEqual(self.rule.asked("neg"), ("r", "q"))
        self.assertEqual(Rule("p", [], []).asked("pos"), ())

    def test_reckons(self):
        self.assertIs(self.rule.reckons(), False)
        self.assertIs(Rule("p", [X], [let(X, "+", val(1), val(2))]).reckons(), True)

    def test_shown(self):
        rule = Rule("p", [X], [pos("q", [X, val(2)])])
        self.assertEqual(rule.shown(), ("p", (("var", "X"),), None, (("pos", "q", (("var", "X"), ("val", 2))),)))
        self.assertEqual(summed_rule("p", [X], [], 0, "sum").shown(), ("p", (("var", "X"),), (0, "sum"), ()))

    def test_with_names(self):
        rule = summed_rule("p", [X, Y], [pos("q", [X, Y, Z])], 1, "most")
        other = rule.with_names({"X": "Y", "Y": "X"})
        self.assertEqual(told_rule(other), "p(Y, most(X)) :- q(Y, X, Z).")
        self.assertEqual(told_rule(rule), "p(X, most(Y)) :- q(X, Y, Z).")

    def test_plain(self):
        rule = read_rule("p(B, A) :- q(C, A), not r(_, V0), X := A + C.")
        self.assertEqual(told_rule(rule.plain()), "p(V0, V1) :- q(V2, V1), not r(V3, V4), V5 := V1 + V2.")
        crossed = read_rule("p(V1, V0) :- q(V2, V1).")
        self.assertEqual(told_rule(crossed.plain()), "p(V0, V1) :- q(V2, V0).")
        self.assertEqual(told_rule(read_rule("p(a, sum(X)) :- q(X).").plain()), "p(a, sum(V0)) :- q(V0).")

    def test_group(self):
        self.assertEqual(read_rule("p(X, count(Y), Z) :- q(X, Y, Z).").group(), (0, 2))
        self.assertEqual(read_rule("p(count(Y)) :- q(Y).").group(), ())
        self.assertEqual(read_rule("p(X, Y) :- q(X, Y).").group(), (0, 1))
        self.assertEqual(read_rule("p :- q.").group(), ())


class SummedRuleTest(unittest.TestCase):
    def test_each_kind(self):
        for kind in SUMS:
            rule = summed_rule("p", [X, Y], [pos("q", [X, Y])], 1, kind)
            self.assertEqual(rule.summed, (1, kind))
            self.assertEqual((rule.name, len(rule.terms), len(rule.body)), ("p", 2, 1))

    def test_refused(self):
        body = [pos("q", [X])]
        for place, kind in ((0, "mean"), (0, ""), (0, "+"), (2, "sum"), (-1, "sum"), (1, "sum")):
            with self.assertRaises(BadRule, msg=(place, kind)):
                summed_rule("p", [X, val(1)], body, place, kind)
        for terms, place in (([], 0), ([X], -1), ([val(1), X], -1), ([X], 1)):
            with self.assertRaises(BadRule):
                summed_rule("p", terms, body, place, "sum")


class SameTest(unittest.TestCase):
    def same(self, one, other):
        found = same_rule(read_rule(one), read_rule(other))
        self.assertEqual(found, same_rule(read_rule(other), read_rule(one)))
        return found

    def test_names_swapped(self):
        self.assertIs(self.same("p(X, Y) :- q(X, Y).", "p(Y, X) :- q(Y, X)."), True)
        self.assertIs(self.same("p(X, Y) :- q(X, Y).", "p(X, Y) :- q(Y, X)."), False)
        self.assertIs(self.same("p(_) :- q(A, _).", "p(B) :- q(C, D)."), True)

    def test_two_names_that_are_one_in_the_other(self):
        self.assertIs(self.same("p(X) :- q(X, Y).", "p(X) :- q(X, X)."), False)
        self.assertIs(self.same("p(X, Y) :- q(X), q(Y).", "p(X, X) :- q(X), q(X)."), False)

    def test_other_things_must_be_the_same(self):
        one = "p(X) :- q(X, 1), not r(X)."
        for other in ("o(X) :- q(X, 1), not r(X).", "p(X) :- q(X, '1'), not r(X).", "p(X) :- q(X, 1), r(X).",
                      "p(X) :- not r(X), q(X, 1).", "p(X) :- q(X, 1).", "p(X) :- q(X, 1), not s(X).",
                      "p(X) :- q(X, Y), not r(X).", "p(count(X)) :- q(X, 1), not r(X)."):
            self.assertIs(self.same(one, other), False, other)
        self.assertIs(self.same("p(count(X)) :- q(X).", "p(sum(X)) :- q(X)."), False)
        self.assertIs(self.same("p(X, count(X)) :- q(X).", "p(count(X), X) :- q(X)."), False)
        self.assertIs(self.same("p(X) :- q(X), X < 1.", "p(X) :- q(X), X <= 1."), False)
        self.assertIs(self.same("p(X) :- q(Y), X := Y + 1.", "p(X) :- q(Y), X := Y - 1."), False)
        self.assertIs(self.same("p('V0') :- q(X).", "p(X) :- q(X)."), False)
        self.assertIs(self.same("p(1).", "p(1)."), True)

    def test_the_first_of_repeats_stays(self):
        texts = ("p(A) :- q(A).", "p(X) :- r(X).", "p(B) :- q(B).", "p(A) :- q(A), q(A).", "p(Y) :- r(Y).")
        rules = [read_rule(text) for text in texts]
        kept = without_repeats(rules)
        self.assertIsInstance(kept, tuple)
        self.assertEqual([told_rule(rule) for rule in kept], [texts[0], texts[1], texts[3]])
        self.assertTrue(all(one is other for one, other in zip(kept, (rules[0], rules[1], rules[3]))))
        self.assertEqual(without_repeats([]), ())


class NamesTest(unittest.TestCase):
    def setUp(self):
        texts = ("p(X) :- q(X), not a(X).", "b :- p(X), X < 1.", "p(X) :- r(X), Y := X + 1.")
        self.rules = [read_rule(text) for text in texts]

    def test_told_by(self):
        self.assertEqual(told_by(self.rules, "p"), (0, 2))
        self.assertEqual(told_by(self.rules, "b"), (1,))
        self.assertEqual(told_by(self.rules, "q"), ())

    def test_names_of(self):
        self.assertEqual(names_of(self.rules), ("a", "b", "p", "q", "r"))
        self.assertEqual(names_of([]), ())


class ReckonedTest(unittest.TestCase):
    def test_deeds(self):
        self.assertEqual(reckoned("+", 2, 3), 5)
        self.assertEqual(reckoned("-", 2, 3), -1)
        self.assertEqual(reckoned("*", -2, 3), -6)
        self.assertEqual(reckoned("*", 0, 3), 0)

    def test_eighteen_figures_and_nineteen(self):
        self.assertEqual(reckoned("+", MOST - 1, 1), MOST)
        self.assertIsNone(reckoned("+", MOST, 1))
        self.assertEqual(reckoned("-", -MOST, 0), -MOST)
        self.assertIsNone(reckoned("-", -MOST, 1))
        self.assertEqual(reckoned("*", 10 ** 9, 10 ** 8), 10 ** 17)
        self.assertIsNone(reckoned("*", 10 ** 9, 10 ** 9))
        self.assertIsNone(reckoned("*", -10 ** 9, 10 ** 9))

    def test_words(self):
        for deed in DEEDS:
            self.assertIsNone(reckoned(deed, "a", 1))
            self.assertIsNone(reckoned(deed, 1, "1"))
            self.assertIsNone(reckoned(deed, "a", "b"))

    def test_bounded(self):
        for number in (0, MOST, -MOST):
            self.assertEqual(bounded(number), number)
        for number in (MOST + 1, -MOST - 1, 10 ** 30):
            self.assertIsNone(bounded(number))


if __name__ == "__main__":
    unittest.main()
