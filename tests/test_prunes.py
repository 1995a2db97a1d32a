"""Prunes, [29] (with [28]): wanted and tidy rules, names put in place, rules that tell the same of what is asked."""

import random
import unittest

import oracle
from deducehall.compares import is_simple, shortest, within
from deducehall.engines import Engine
from deducehall.errors import BadRule
from deducehall.layers import check_layers
from deducehall.prunes import (
    apart_from, asks_itself, can_unfold, plain_names, pruned, put_in_place, saving, tidied, tidy, unfolded, wanted,
)
from deducehall.readers import read_rule, told_rule
from deducehall.rules import same_rule


def rules(text):
    return oracle.rules_of(text)


def texts(found):
    return [told_rule(rule) for rule in found]


def plain_texts(found):
    return texts(plain_names(found))


class PrunesCase(unittest.TestCase):
    def very(self, some, found):
        """Return the numbers of the rules that were found, which must be the very ones."""
        self.assertIs(type(found), tuple)
        return [[one is other for other in some].index(True) for one in found]


class WantedTest(PrunesCase):
    def test_what_the_names_ask_over_others(self):
        some = rules("a(X) :- b(X), not c(X). b(X) :- d(X, Y). c(X) :- e(X). d(X, count(Y)) :- f(X, Y). g(X) :- a(X)."
                     " e(X) :- e(X), h(X).")
        for names, numbers in ((("a",), [0, 1, 2, 3, 5]), (("c",), [2, 5]), (("b", "g"), [0, 1, 2, 3, 4, 5]), (("f",), []),
                               ((), []), (["d", "nobody"], [3]), (("e",), [5])):
            self.assertEqual(self.very(some, wanted(some, names)), numbers)


class TidyTest(PrunesCase):
    def test_parts_told_twice_and_tests_that_hold(self):
        for text, left in (("h(X) :- p(X), p(X).", "h(X) :- p(X)."), ("h(X) :- p(X), 1 < 2, p(Y).", "h(X) :- p(X), p(Y)."),
                           ("h(X) :- X = X, p(X), X <= X.", "h(X) :- p(X)."), ("h(X) :- p(X), X < 3, X < 3.", "h(X) :- p(X), X < 3."),
                           ("h(X) :- p(X), not q(X), not q(X).", "h(X) :- p(X), not q(X)."),
                           ("h(X) :- p(X), 9 < a, '1' != 1, a <= a, 'B' < a.", "h(X) :- p(X)."),
                           ("h(count(X)) :- q(X, Y), q(X, Y), -1 <= -1.", "h(count(X)) :- q(X, Y)."),
                           ("h(X) :- q(X, _), q(X, _).", "h(X) :- q(X, _), q(X, _)."),
                           ("h(X) :- p(X), X != 3, 3 != X.", "h(X) :- p(X), X != 3, 3 != X."),
                           ("h(Y) :- p(X), Y := 1 + 2, X < Y.", "h(Y) :- p(X), Y := 1 + 2, X < Y."),
                           ("h(X) :- p(X), q(X, X).", "h(X) :- p(X), q(X, X)."), ("h(1) :- 1 < 2, 2 < 3.", "h(1).")):
            self.assertEqual(told_rule(tidy(read_rule(text))), left)

    def test_one_that_cannot_hold(self):
        for text in ("h(X) :- p(X), 2 < 1.", "h(X) :- p(X), X < X.", "h(X) :- X != X, p(X).", "h(X) :- p(X), 1 = '1'.",
                     "h(X) :- p(X), a < 9, 1 < 2.", "h(count(X)) :- p(X), a != a.", "h(X) :- p(X), 'a' < 'B'."):
            self.assertIs(tidy(read_rule(text)), None)

    def test_tidied(self):
        found = tidied(rules("h(X) :- p(X), 2 < 1. h(X) :- h(X), p(X). h(X) :- p(X), p(X). h(X, Y) :- h(Y, X)."
                             " h(count(X)) :- p(X), 1 = 1. h(X) :- p(X), 1 = 1, h(X)."))
        self.assertIs(type(found), tuple)
        self.assertEqual(texts(found), ["h(X) :- p(X).", "h(X, Y) :- h(Y, X).", "h(count(X)) :- p(X)."])

    def test_asks_itself(self):
        for text, asks in (("h(X) :- h(X).", True), ("h(X) :- p(X), h(X), X < 3.", True), ("h(X, Y) :- h(Y, X).", False),
                           ("h(X) :- h(Y), p(X).", False), ("h(X) :- not h(X), p(X).", False), ("h :- h.", True),
                           ("h(X) :- p(X).", False), ("h(count(X)) :- h(X).", False), ("h(1) :- h('1').", False)):
            self.assertIs(asks_itself(read_rule(text)), asks)


class UnfoldTest(PrunesCase):
    def test_apart_from(self):
        for one, other in (("h(X, Y) :- q(X, Z), p(Y).", "g(X) :- q(X, Y)."), ("h(U0) :- p(U0).", "g(U1, U0) :- q(U1, U0)."),
                           ("h(X) :- q(X, _), q(_, X).", "g(_) :- q(U, U2)."), ("h(1) :- p(1).", "g(X) :- p(X).")):
            found = apart_from(read_rule(one), read_rule(other), "U")
            self.assertTrue(same_rule(found, read_rule(one)))
            self.assertEqual([name for name in found.names() if name in read_rule(other).names()], [])

    def test_unfolded(self):
        for outer, number, inner, found in (
                ("h(X) :- a(X, Y), p(Y).", 0, "a(P, Q) :- q(P, R), q(R, Q).", "h(X) :- q(X, R), q(R, Y), p(Y)."),
                ("h(X) :- p(X), a(X, X).", 1, "a(P, Q) :- q(P, Q).", "h(X) :- p(X), q(X, X)."),
                ("h(X) :- a(X, Y), p(Y).", 0, "a(P, P) :- p(P).", "h(X) :- p(X), p(X)."),
                ("h(X) :- a(X, 1), p(X).", 0, "a(P, Q) :- q(Q, P).", "h(X) :- q(1, X), p(X)."),
                ("h(X) :- a(X, Y), p(Y).", 0, "a(P, 7) :- p(P).", "h(X) :- p(X), p(7)."),
                ("h(X) :- a(Y, X), p(Y).", 0, "a(X, Y) :- q(X, Y).", "h(X) :- q(Y, X), p(Y)."),
                ("h(X) :- a(X), a(Y), q(X, Y).", 1, "a(X) :- q(X, Y).", "h(X) :- a(X), q(Y, Z), q(X, Y)."),
                ("h(X) :- a(X, _), p(X).", 0, "a(P, Q) :- q(P, Q), p(Q).", "h(X) :- q(X, Q), p(Q), p(X)."),
                ("h(X) :- a(X), p(X).", 0, "a(P) :- q(P, _), q(_, P).", "h(X) :- q(X, A), q(B, X), p(X)."),
                ("h :- a.", 0, "a :- p(X).", "h :- p(X).")):
            one = unfolded(read_rule(outer), number, read_rule(inner))
            self.assertEqual(told_rule(one.plain()), told_rule(read_rule(found).plain()))

    def test_a_low_stroke_alone_comes_to_stand_at_no_two_places(self):
        one = unfolded(read_rule("h(X) :- a(X, _), p(X)."), 0, read_rule("a(P, Q) :- q(P, Q), p(Q)."))
        self.assertEqual(told_rule(read_rule(told_rule(one)).plain()), told_rule(one.plain()))

    def test_terms_that_cannot_be_alike(self):
        for outer, inner in (("h(X) :- a(X, 1).", "a(P, 2) :- p(P)."), ("h :- a(1, 2).", "a(P, P) :- p(P)."),
                             ("h(X) :- a(X, '1').", "a(P, 1) :- p(P)."), ("h(X) :- a(X).", "a(X, Y) :- q(X, Y).")):
            self.assertIs(unfolded(read_rule(outer), 0, read_rule(inner)), None)

    def test_can_unfold(self):
        some = rules("h(X) :- a(X), b(X). a(X) :- p(X). a(X) :- q(X, X). b(X) :- c(X). c(X) :- p(X), X < 3. d(X) :- e(X)."
                     " e(X) :- p(X). f(X) :- p(X), not e(X). r(X) :- r(X). r(X) :- p(X). s(X) :- s2(X). s2(X) :- s(X)."
                     " s(X) :- p(X). t(X) :- u(X), X < 3. u(X) :- p(X). v(count(X)) :- w(X). w(X) :- p(X). one(1) :- p(1).")
        for name, can in (("a", True), ("b", True), ("c", False), ("e", False), ("r", False), ("s", False), ("s2", False),
                          ("u", False), ("w", False), ("p", False), ("nobody", False), ("one", True), ("v", False)):
            self.assertIs(can_unfold(some, name, (), ("h",)), can, name)
        self.assertIs(can_unfold(some, "a", ("a",), ("h",)), False)
        self.assertIs(can_unfold(some, "a", (), ("h", "a")), False)
        self.assertIs(can_unfold(some, "a", ["p", "q"], ["h"]), True)

    def test_put_in_place(self):
        found = put_in_place(rules("h(X) :- a(X), a(Y), q(X, Y). a(X) :- p(X). g(X) :- p(X). a(X) :- q(X, 1)."), "a")
        self.assertIs(type(found), tuple)
        self.assertEqual(sorted(plain_texts(found)), sorted(plain_texts(rules(
            "h(X) :- p(X), p(Y), q(X, Y). h(X) :- p(X), q(Y, 1), q(X, Y). h(X) :- q(X, 1), p(Y), q(X, Y)."
            " h(X) :- q(X, 1), q(Y, 1), q(X, Y). g(X) :- p(X)."))))
        found = put_in_place(rules("h(X) :- a(X, 1). a(X, 2) :- p(X). h(X) :- p(X)."), "a")
        self.assertEqual(texts(found), ["h(X) :- p(X)."])

    def test_one_that_asks_itself_is_refused(self):
        for text in ("h(X) :- a(X). a(X) :- a(X).", "h(X) :- a(X). a(X) :- p(X). a(X) :- q(X, Y), a(Y)."):
            with self.assertRaises(BadRule) as caught:
                put_in_place(rules(text), "a")
            self.assertIs(type(caught.exception), BadRule)


class PrunedTest(PrunesCase):
    def shown(self, text, based, names):
        return plain_texts(pruned(rules(text), based, names))

    def test_by_hand(self):
        for text, based, names, left in (
                ("h(X) :- p(X). g(X) :- p(X).", ("p",), ("h",), ["h(V0) :- p(V0)."]),
                ("h(X) :- a(X), p(X), 1 < 2. a(X) :- b(X, Y). b(X, Y) :- q(X, Y), p(X).", ("p", "q"), ("h",),
                 ["h(V0) :- q(V0, V1), p(V0)."]),
                ("h(X) :- a(X). a(X) :- p(X). a(X) :- q(X, X).", ("p", "q"), ("h",), ["h(V0) :- p(V0).", "h(V0) :- q(V0, V0)."]),
                ("h(X) :- a(X). a(X) :- p(X).", ("p", "a"), ("h",), ["h(V0) :- a(V0).", "a(V0) :- p(V0)."]),
                ("h(X) :- a(X). a(X) :- p(X).", ("p",), ("h", "a"), ["h(V0) :- a(V0).", "a(V0) :- p(V0)."]),
                ("h(X) :- a(X), not a(Y), p(Y). a(X) :- p(X).", ("p",), ("h",),
                 ["h(V0) :- a(V0), not a(V1), p(V1).", "a(V0) :- p(V0)."]),
                ("h(X) :- p(X), q(X, Y). h(X) :- p(X). h(X) :- p(X), h(X). h(X) :- q(X, X), 2 < 1.", ("p", "q"), ("h",),
                 ["h(V0) :- p(V0)."]),
                ("t(X, Z) :- t(X, Y), t(Y, Z), t(X, W). t(X, Y) :- q(X, Y), q(X, Z).", ("q",), ("t",),
                 ["t(V0, V1) :- t(V0, V2), t(V2, V1).", "t(V0, V1) :- q(V0, V1)."]),
                ("n(count(X)) :- a(X), a(X). a(X) :- p(X), p(Y).", ("p",), ("n",), ["n(count(V0)) :- a(V0).", "a(V0) :- p(V0)."]),
                ("h(X) :- a(X), 1 != 1. a(X) :- p(X).", ("p",), ("h",), []),
                ("h(X) :- p(X).", ("p",), ("p",), []), ("", (), ("h",), []), ("h(X) :- p(X).", ("p",), (), [])):
            self.assertEqual(self.shown(text, based, names), left, text)

    def test_a_rule_of_tests_alone_stays_a_rule(self):
        # Without a body it would be a fact, which no engine takes among its rules.
        left = pruned(rules("h(1) :- 1 < 2, 2 < 3. h(2) :- 2 < 1. h(X) :- p(X)."), ("p",), ("h",))
        self.assertEqual(Engine(left, oracle.facts_of("p(3).")).rows("h"), ((1,), (3,)))

    def test_what_is_handed_in_stays(self):
        some = rules("h(X) :- a(X), a(X). a(X) :- p(X).")
        before = texts(some)
        pruned(some, ("p",), ("h",))
        self.assertEqual(texts(some), before)

    def test_saving(self):
        for text, based, names, less in (("h(X) :- a(X), a(X). a(X) :- p(X). g(X) :- p(X).", ("p",), ("h",), (2, 3)),
                                         ("h(X) :- p(X).", ("p",), ("h",), (0, 0)), ("h(X) :- p(X).", (), (), (1, 1)),
                                         ("h(X) :- a(X), a(Y), q(X, Y). a(X) :- p(X). a(X) :- q(X, 1).", (), ("h",), (-1, -7))):
            self.assertEqual(saving(rules(text), based, names), less)

    def test_plain_names(self):
        self.assertEqual(texts(plain_names(rules("h(B, A) :- q(A, C), p(B). h(X, X) :- p(X)."))),
                         ["h(V0, V1) :- q(V1, V2), p(V0).", "h(V0, V0) :- p(V0)."])


def has_sure_test(rule):
    return any(part.kind == "cmp" and (part.terms[0].shown() == part.terms[1].shown()
                                       or part.terms[0].name == part.terms[1].name == "") for part in rule.body)


class DrawnTest(PrunesCase):
    def as_pruned(self, some, based, names):
        """Hold that pruned rules have no more of what they are to lose, and return them."""
        left = pruned(some, based, names)
        check_layers(left)
        self.assertEqual(len(wanted(left, names)), len(left))
        for number, rule in enumerate(left):
            self.assertFalse(asks_itself(rule))
            self.assertFalse(has_sure_test(rule) and len(rule.body) > 1)
            self.assertEqual(len({part.shown() for part in rule.body}), len(rule.body))
            if is_simple(rule):
                self.assertEqual(len(shortest(rule).body), len(rule.body))
                for there, other in enumerate(left):
                    if there != number and other.name == rule.name and is_simple(other):
                        self.assertFalse(within(rule, other))
            self.assertFalse(can_unfold(left, rule.name, based, names))
        return left

    def test_over_drawn_rows(self):
        fewer = 0
        for seed in range(120):
            chosen = random.Random(seed)
            some = oracle.drawn_rules(chosen, 6, plain=chosen.random() < 0.6)
            told = sorted({rule.name for rule in some})
            names = tuple(name for name in "pqrsz" if chosen.random() < 0.4)
            based = tuple(name for name in "ab" + "".join(told) if name in "ab" or chosen.random() < 0.3)
            left = self.as_pruned(some, based, names)
            fewer += len(left) < len(some)
            for _ in range(6):
                facts = [fact for fact in [oracle.drawn_fact(chosen) for _ in range(9)] if fact[0] in based]
                one, other = Engine(some, facts), Engine(left, facts)
                for name in names:
                    self.assertEqual(other.store.of(name).rows(), one.store.of(name).rows())
        self.assertGreater(fewer, 60)


if __name__ == "__main__":
    unittest.main()
