"""Safety, [8]: what parts need and give, limited and loose names, what is refused and in which order, facts."""

import itertools
import unittest

from deducehall.errors import BadRule, BadSize
from deducehall.readers import read, read_rule, told_rule
from deducehall.rules import MOST, Rule, held, let, neg, pos, summed_rule
from deducehall.safety import (
    all_terms, check_rule, gives, is_fact, is_name, limited, loose, needs, parted, ready, reckoned_twice, row_of,
    shared, too_long,
)
from deducehall.terms import shown_all, val, var

X, Y, Z = var("X"), var("Y"), var("Z")
ALL = read_rule("p(H, X) :- q(Y, X, Y, 1), Z <= Y, A := C + B, not r(W, X, _, W, V), not s(V), 1 < 2, not t(_).")


class PartsTest(unittest.TestCase):
    def test_needs(self):
        self.assertEqual([needs(ALL, number) for number in range(7)], [
            (), ("Z", "Y"), ("C", "B"), ("X", "V"), ("V",), (), ()])

    def test_gives(self):
        self.assertEqual([tuple(gives(ALL, number)) for number in range(7)], [("Y", "X"), (), ("A",), (), (), (), ()])

    def test_a_reckoning_of_values_needs_nothing(self):
        rule = read_rule("p(X) :- X := 1 + 2, Y := Z * Z.")
        self.assertEqual((needs(rule, 0), tuple(gives(rule, 0))), ((), ("X",)))
        self.assertEqual((needs(rule, 1), tuple(gives(rule, 1))), (("Z",), ("Y",)))

    def test_shared(self):
        self.assertIs(shared(ALL, 3, "X"), True)
        self.assertIs(shared(ALL, 3, "V"), True)
        self.assertIs(shared(ALL, 4, "V"), True)
        self.assertIs(shared(ALL, 3, "W"), False)
        self.assertIs(shared(ALL, 0, "Y"), True)
        self.assertIs(shared(ALL, 3, "H"), True)
        self.assertIs(shared(ALL, 0, "W"), True)
        self.assertIs(shared(ALL, 0, "none"), False)

    def test_a_name_of_the_head_is_shared(self):
        rule = read_rule("p(X) :- not q(X, Y).")
        self.assertEqual(needs(rule, 0), ("X",))
        self.assertEqual(needs(read_rule("p(count(X)) :- not q(X, Y)."), 0), ("X",))

    def test_a_name_of_another_test_or_not_is_shared(self):
        self.assertEqual(needs(read_rule("p :- not q(X), X < 1."), 0), ("X",))
        self.assertEqual(needs(read_rule("p :- not q(X), Y := X + 1."), 0), ("X",))
        self.assertEqual(needs(read_rule("p :- not q(X), not q(X)."), 1), ("X",))
        self.assertEqual(needs(read_rule("p :- not q(X, X), not q(Y, Z)."), 0), ())

    def test_ready(self):
        self.assertIs(ready(ALL, 0, ()), True)
        self.assertIs(ready(ALL, 1, ("Y",)), False)
        self.assertIs(ready(ALL, 1, ["Y", "Z"]), True)
        self.assertIs(ready(ALL, 2, {"B": True}), False)
        self.assertIs(ready(ALL, 2, {"B": True, "C": True}), True)
        self.assertIs(ready(ALL, 3, ("X",)), False)
        self.assertIs(ready(ALL, 3, ("V", "X")), True)
        self.assertIs(ready(ALL, 5, ()), True)


class LimitedTest(unittest.TestCase):
    def test_by_rows_asked(self):
        self.assertEqual(limited(read_rule("p(X) :- q(Y, X), r(Z, X).")), ("Y", "X", "Z"))
        self.assertEqual(limited(read_rule("p(X) :- q(Y), not r(X), X < Z.")), ("Y",))
        self.assertEqual(limited(read_rule("p(1).")), ())

    def test_by_reckonings_of_bound_names_alone(self):
        self.assertEqual(limited(read_rule("p(X) :- q(Y), X := Y + 1.")), ("Y", "X"))
        self.assertEqual(limited(read_rule("p(X) :- q(Y), X := Y + Z.")), ("Y",))
        self.assertEqual(limited(read_rule("p(X) :- X := 1 + 2.")), ("X",))
        self.assertEqual(limited(read_rule("p(X) :- X := X + 1.")), ())
        self.assertEqual(limited(read_rule("p(X) :- X := Y + 1, Y := X - 1.")), ())

    def test_parts_that_get_ready_behind_later_ones(self):
        self.assertEqual(limited(read_rule("p(X) :- X := Y + 1, Y := Z + 1, q(Z).")), ("Z", "Y", "X"))
        self.assertEqual(loose(read_rule("p(X) :- X < 9, X := Y + 1, Y := Z + 1, q(Z).")), ())


class LooseTest(unittest.TestCase):
    def test_the_heads_first_then_part_by_part(self):
        rule = read_rule("p(B, X, A, B) :- C < D, q(X), E := F + A, not r(G, H), not s(G, X).")
        self.assertEqual(loose(rule), ("B", "A", "C", "D", "F", "G"))
        self.assertEqual(loose(ALL), ("H", "Z", "C", "B", "V"))

    def test_none(self):
        self.assertEqual(loose(read_rule("p(X) :- q(X, Y), not r(X, Z), Y < 1.")), ())
        self.assertEqual(loose(read_rule("p :- not q(X), not r(Y).")), ())
        self.assertEqual(loose(read_rule("p(1, a).")), ())

    def test_a_fact_with_a_variable(self):
        self.assertEqual(loose(read_rule("p(X, 1, Y).")), ("X", "Y"))

    def test_names_in_several_nots(self):
        self.assertEqual(loose(read_rule("p :- not q(X), not r(X).")), ("X",))

    def test_summed_names(self):
        self.assertEqual(loose(read_rule("p(count(X)) :- q(Y).")), ("X",))


class ReckonedTwiceTest(unittest.TestCase):
    def test_bound_by_another_part(self):
        for text in ("p(X) :- q(X), X := 1 + 2.", "p(X) :- X := 1 + 2, q(X).", "p(X) :- X := 1 + 2, X := 2 + 1.",
                     "p(X) :- q(Y), X := Y + 1, r(Y, X).", "p(X) :- q(X), X := X + 1.",
                     "p(X) :- X := X + 1.", "p(X) :- X := 1 - X."):
            self.assertIs(reckoned_twice(read_rule(text)), True, text)

    def test_not_bound_besides(self):
        for text in ("p(X) :- q(Y), X := Y + 1.", "p(X) :- X := 1 + 2, X < 5, not q(X).", "p(1).",
                     "p(X) :- q(X), q(X).", "p(X) :- q(Y), X := Y + Y, Z := X + Y."):
            self.assertIs(reckoned_twice(read_rule(text)), False, text)


class CheckTest(unittest.TestCase):
    def refused(self, rule, error):
        with self.assertRaises(error) as caught:
            check_rule(rule)
        self.assertIs(type(caught.exception), error)

    def test_safe_ones_are_given_back(self):
        for text in ("p.", "p(1, a).", "p(X) :- q(X).", "count(X) :- sum(X), not least.", "p(X, count(Y)) :- q(X, Y).",
                     "p(X) :- q(Y), X := Y + 1, X < 9, not r(X, _).", "p :- not q(_).", "p :- 1 < 2.",
                     "p(X) :- not r(X), q(X).", "p(Y) :- X := 1 + 2, r(Z, Y), Y < X.", "aB_9 :- a_(X), nota(X)."):
            rule = read_rule(text)
            self.assertIs(check_rule(rule), rule, text)

    def test_names_that_may_not_be_told(self):
        for name in ("not", "", "P", "_p", "1", "p q", "p-q", "\u00e4", "p'"):
            self.refused(Rule(name, (), ()), BadRule)
            self.refused(Rule("p", (), (pos(name, ()),)), BadRule)
            self.refused(Rule("p", (), (pos("q", ()), neg(name, ()))), BadRule)
            self.assertIs(is_name(name), False)
        for name in ("p", "nota", "count", "sum", "least", "most", "pQ_9", "p_"):
            self.assertIs(is_name(name), True)
            rule = Rule(name, (), (pos(name, ()), neg(name, ())))
            self.assertIs(check_rule(rule), rule)

    def test_long_numbers(self):
        long = val(MOST + 1)
        self.refused(Rule("p", (long,), ()), BadSize)
        self.refused(Rule("p", (val(-MOST - 1),), ()), BadSize)
        for part in (pos("q", (long,)), neg("q", (long,)), held("<", val(1), long), let(X, "+", long, val(1))):
            self.refused(Rule("p", (), (part,)), BadSize)
        for value in (MOST, -MOST, "9" * 30):
            rule = Rule("p", (val(value),), (pos("q", (val(value),)),))
            self.assertIs(check_rule(rule), rule)

    def test_too_long(self):
        self.assertIs(too_long(val(MOST + 1)), True)
        self.assertIs(too_long(val(-MOST - 1)), True)
        for term in (val(MOST), val(-MOST), val("9" * 19), var("X"), var("X" * 19), val(0)):
            self.assertIs(too_long(term), False)

    def test_loose_names(self):
        for text in ("p(X).", "p(X) :- q(Y).", "p :- X < 1.", "p :- q(X), X < Y.", "p :- q(X), Y := X + Z.",
                     "p(X) :- not q(X).", "p :- not q(X), not r(X).", "p(count(X)) :- q(Y).", "p(X) :- X := X + 1.",
                     "p(_).", "p(X) :- q(Y), X = Y."):
            self.refused(read_rule(text), BadRule)

    def test_reckoned_twice(self):
        self.refused(read_rule("p(X) :- q(X), X := 1 + 2."), BadRule)
        self.refused(read_rule("p(X) :- q(X), X := X + 1."), BadRule)

    def test_a_sum_of_nothing(self):
        self.refused(read_rule("p(count(X))."), BadRule)
        self.refused(summed_rule("p", (X,), (), 0, "sum"), BadRule)
        self.refused(Rule("p", (val(1),), (), (0, "count")), BadRule)

    def test_which_comes_first(self):
        long = val(MOST + 1)
        # A bad name stands ahead of a long number; both errors are told apart by their class.
        self.refused(Rule("not", (long,), ()), BadRule)
        self.refused(Rule("p", (long,), (neg("Q", ()),)), BadRule)
        # A long number stands ahead of all that follows.
        self.refused(Rule("p", (long, X), ()), BadSize)
        self.refused(Rule("p", (long,), (pos("q", (X,)), let(X, "+", val(1), val(2)))), BadSize)
        self.refused(summed_rule("p", (X, long), (), 0, "sum"), BadSize)

    def test_all_terms(self):
        rule = read_rule("p(X, 1) :- q(a), not r(Y, X), X < 2, Z := X + 3.")
        found = all_terms(rule)
        self.assertIsInstance(found, list)
        self.assertEqual(shown_all(found), (
            ("var", "X"), ("val", 1), ("val", "a"), ("var", "Y"), ("var", "X"), ("var", "X"), ("val", 2), ("var", "Z"),
            ("var", "X"), ("val", 3)))


class FactsTest(unittest.TestCase):
    def test_is_fact(self):
        for text, found in (("p.", True), ("p(1, a).", True), ("p(X).", False), ("p(1) :- q.", False), ("p(_).", False),
                            ("p(count(X)).", False)):
            self.assertIs(is_fact(read_rule(text)), found, text)

    def test_row_of(self):
        self.assertEqual(row_of(read_rule("p(1, a, '').")), (1, "a", ""))
        self.assertEqual(row_of(read_rule("p.")), ())
        for text in ("p(X).", "p(1) :- q.", "p(1, X)."):
            with self.assertRaises(BadRule):
                row_of(read_rule(text))

    def test_parted(self):
        rules = [clause.rule for clause in read("p(2). q(X) :- p(X). p(1). r. p(2). s(1) :- r.")]
        facts, others = parted(rules)
        self.assertEqual(facts, (("p", (2,)), ("p", (1,)), ("r", ()), ("p", (2,))))
        self.assertIsInstance(others, tuple)
        self.assertEqual([told_rule(rule) for rule in others], ["q(X) :- p(X).", "s(1) :- r."])
        self.assertEqual(parted([]), ((), ()))

    def test_parted_refuses(self):
        for text in ("p(1). q(X).", "p(X) :- q(Y). p(1).", "p(count(X))."):
            with self.assertRaises(BadRule):
                parted([clause.rule for clause in read(text)])
        with self.assertRaises(BadRule):
            parted([Rule("not", (), ())])
        with self.assertRaises(BadSize):
            parted([Rule("p", (val(MOST + 1),), ())])


class AnyOrderTest(unittest.TestCase):
    def test_what_is_limited_does_not_hang_on_the_order_of_the_parts(self):
        parts = read_rule("p :- A := B + C, B := D + 1, q(D), r(C, E), E < A.").body
        for body in itertools.permutations(parts):
            rule = Rule("p", (var("A"),), body)
            self.assertEqual(sorted(limited(rule)), ["A", "B", "C", "D", "E"])
            self.assertEqual(loose(rule), ())


if __name__ == "__main__":
    unittest.main()
