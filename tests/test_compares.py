"""Compares, [28] (with [9]): rules that lie within others, made shortest, needed ones, witnesses."""

import random
import unittest

import oracle
from deducehall.compares import (
    alike, answers, at_value, frozen, is_simple, like_terms, must_be_simple, needed_rules, own_mark, shortest, within,
    witness,
)
from deducehall.errors import BadKind, BadRule
from deducehall.readers import read_rule, told_rule
from deducehall.rules import Rule, pos
from deducehall.terms import in_order, val, var

NOT_SIMPLE = ("h(X) :- p(X), not q(X).", "h(X) :- p(X), X < 3.", "h(Y) :- p(X), Y := X + 1.", "h(count(X)) :- p(X).",
              "h(X) :- p(X), X = X.")


def rule(text):
    return read_rule(text)


def table_of(facts):
    table = {}
    for name, row in facts:
        table.setdefault(name, set()).add(row)
    return table


COUNTS = {"p": 1, "q": 2, "r": 2}


def drawn_simple(chosen, count=1):
    """Return a drawn positive rule whose head's variables stand in its body."""
    while True:
        parts = []
        for _ in range(chosen.randint(1, 4)):
            name = chosen.choice("pqqr")
            parts.append(pos(name, [val(chosen.choice((1, "a", "?", "?X"))) if chosen.random() < 0.15
                                    else var(chosen.choice("XYZ")) for _ in range(COUNTS[name])]))
        terms = [val(1) if chosen.random() < 0.1 else var(chosen.choice("XYZ")) for _ in range(count)]
        names = [name for part in parts for name in part.names()]
        if all(term.name == "" or term.name in names for term in terms):
            return Rule("h", terms, parts)


def drawn_facts(chosen):
    return [(name, tuple(chosen.choice((1, 2, "a", "?", "?X")) for _ in range(COUNTS[name])))
            for name in [chosen.choice("pqqrr") for _ in range(chosen.randint(0, 8))]]


class ComparesCase(unittest.TestCase):
    def refused(self, error, deed, *arguments):
        with self.assertRaises(error) as caught:
            deed(*arguments)
        self.assertIs(type(caught.exception), error)


class SimpleTest(ComparesCase):
    def test_is_simple(self):
        for text in ("h(X) :- p(X).", "h(1).", "h :- p(X), q(X, Y), p(X).", "h(X) :- h(X)."):
            self.assertIs(is_simple(rule(text)), True)
            self.assertIs(must_be_simple([rule(text)]), None)
        for text in NOT_SIMPLE:
            self.assertIs(is_simple(rule(text)), False)
            self.refused(BadRule, must_be_simple, [rule("h(X) :- p(X)."), rule(text)])
        self.assertIs(must_be_simple([]), None)

    def test_rules_that_are_not_simple(self):
        plain = rule("h(X) :- p(X).")
        for text in NOT_SIMPLE:
            for deed in (within, alike, witness):
                self.refused(BadRule, deed, plain, rule(text))
                self.refused(BadRule, deed, rule(text), plain)
            self.refused(BadRule, shortest, rule(text))


class FrozenTest(ComparesCase):
    def test_each_variable_a_word_of_its_own(self):
        facts, row = frozen(rule("h(X, 1, Y) :- q(X, Z), p('?X'), q(Y, X)."))
        self.assertEqual(row, ("?X", 1, "?Y"))
        self.assertEqual(tuple(facts), (("q", ("?X", "?Z")), ("p", ("?X",)), ("q", ("?Y", "?X"))))
        facts, row = frozen(rule("h(X) :- q(X, _)."), "??")
        self.assertEqual((row, tuple(facts)), (("??X",), (("q", ("??X", "??_1")),)))
        self.assertEqual(frozen(rule("h(1).")), ((), (1,)))

    def test_a_mark_that_no_word_begins_with(self):
        for texts, mark in ((("h(X) :- p(X).",), "?"), (("h(X) :- p('?').",), "??"), (("h(X) :- p(X), p('??a').",), "???"),
                            (("h(a) :- p(b).", "h('?X') :- p(1)."), "??"), (("h(X) :- p('a?').",), "?"), ((), "?"),
                            (("h(X) :- p('???').", "h(X) :- p('?')."), "????")):
            self.assertEqual(own_mark([rule(text) for text in texts]), mark)


class WithinTest(ComparesCase):
    def test_by_hand(self):
        for one, other, holds in (
                ("h(X) :- p(X), q(X, Y).", "h(X) :- p(X).", True), ("h(X) :- p(X).", "h(X) :- p(X), q(X, Y).", False),
                ("h(X) :- q(X, X).", "h(Y) :- q(Y, Z).", True), ("h(X) :- q(X, Y).", "h(X) :- q(X, X).", False),
                ("h(X) :- q(X, 1).", "h(X) :- q(X, Y).", True), ("h(X) :- q(X, Y).", "h(X) :- q(X, 1).", False),
                ("h(1) :- p(1).", "h(X) :- p(X).", True), ("h(X) :- p(X).", "h(1) :- p(1).", False),
                ("h(1) :- p(X).", "h('1') :- p(X).", False), ("h(X, X) :- p(X).", "h(X, Y) :- p(X), p(Y).", True),
                ("h(X, Y) :- p(X), p(Y).", "h(X, X) :- p(X).", False), ("h :- p(X).", "h :- p(Y), p(Z).", True),
                ("h(X) :- q(X, Y), q(Y, Z).", "h(X) :- q(X, Y).", True), ("h(1).", "h(1).", True), ("h(1).", "h(2).", False),
                ("h(1) :- p(X).", "h(1).", True), ("h(1).", "h(1) :- p(X).", False),
                ("h(X) :- q(X, Y), q(Y, X).", "h(X) :- q(X, Y), q(Y, Z), q(Z, W).", True),
                ("h(X) :- h(X), p(X).", "h(X) :- h(X).", True), ("a(X) :- p(X), q(X, X).", "b(X) :- p(X).", True)):
            self.assertIs(within(rule(one), rule(other)), holds, (one, other))
            self.assertIs(witness(rule(one), rule(other)) is None, holds)

    def test_words_that_look_like_made_ones(self):
        for one, other in (("h(X) :- q(X, Y).", "h('?X') :- q('?X', Y)."), ("h(X) :- q(X, Y).", "h(X) :- q(X, '?Y')."),
                           ("h(X) :- q(X, Y), p('?').", "h(X) :- q(X, '??Y').")):
            self.assertIs(within(rule(one), rule(other)), False)
            self.assertIs(within(rule(other), rule(one)), "p('?')" not in one)

    def test_unlike_counts_of_places(self):
        for one, other in (("h(X) :- p(X).", "h(X, X) :- p(X)."), ("h :- p(X).", "h(X) :- p(X)."),
                           ("h(X) :- p(X).", "h(X) :- p(X, Y)."), ("a(X) :- p(X).", "b(X, X) :- p(X).")):
            for deed in (within, alike, witness):
                self.refused(BadKind, deed, rule(one), rule(other))
                self.refused(BadKind, deed, rule(other), rule(one))

    def test_alike(self):
        for one, other, holds in (("h(X) :- p(X), p(Y).", "h(Z) :- p(Z).", True), ("h(X) :- p(X).", "h(X) :- q(X, Y).", False),
                                  ("h(X) :- p(X), q(X, Y).", "h(X) :- p(X).", False),
                                  ("h(X) :- q(X, Y), q(X, Z).", "h(X) :- q(X, W).", True)):
            self.assertIs(alike(rule(one), rule(other)), holds)
            self.assertIs(alike(rule(other), rule(one)), holds)

    def test_drawn_pairs(self):
        lie = 0
        for seed in range(300):
            chosen = random.Random(seed)
            one, other = drawn_simple(chosen), drawn_simple(chosen)
            if chosen.random() < 0.5:
                more = [pos("p", [var(chosen.choice("XYZ"))]), pos("q", [var("X"), var("Y")])][:chosen.randint(0, 2)]
                one = Rule("h", other.terms, list(other.body) + more)
            holds = within(one, other)
            facts = witness(one, other)
            self.assertIs(facts is None, holds)
            if holds:
                lie += 1
                for _ in range(15):
                    table = table_of(drawn_facts(chosen))
                    self.assertLessEqual(oracle.told_by(one, table), oracle.told_by(other, table))
            else:
                table = table_of(facts)
                self.assertFalse(oracle.told_by(one, table) <= oracle.told_by(other, table))
        self.assertTrue(60 < lie < 250, lie)


class AnswersTest(unittest.TestCase):
    def test_by_hand(self):
        facts = oracle.facts_of("q(1, w). q(1, 2). q(a, 1). p(1).")
        self.assertEqual(in_order(answers(rule("h(Y, X) :- q(X, Y), p(X)."), facts)), ((2, 1), ("w", 1)))
        self.assertEqual(in_order(answers(rule("h(X) :- q(X, _), not p(X)."), facts)), (("a",),))
        self.assertEqual(in_order(answers(rule("h(X) :- q(X, X)."), facts)), ())
        self.assertEqual(in_order(answers(rule("h :- q(X, Y)."), [])), ())

    def test_drawn(self):
        for seed in range(60):
            chosen = random.Random(seed)
            one, facts = drawn_simple(chosen, 2), drawn_facts(chosen)
            found = answers(one, facts)
            self.assertEqual(len(found), len(set(found)))
            self.assertEqual(set(found), oracle.told_by(one, table_of(facts)))


class ShortestTest(unittest.TestCase):
    def test_by_hand(self):
        for text, short in (("h(X) :- p(X), p(X).", "h(X) :- p(X)."), ("h(X) :- q(X, Y), q(X, Z).", "h(X) :- q(X, Z)."),
                            ("h(X, Y) :- q(X, Y), q(X, Z).", "h(X, Y) :- q(X, Y)."), ("h(X) :- p(Y), p(X).", "h(X) :- p(X)."),
                            ("h(X) :- q(X, 1), q(X, Y).", "h(X) :- q(X, 1)."), ("h(1) :- p(X), p(Y).", "h(1) :- p(Y)."),
                            ("h(X) :- q(X, Y), q(Y, X).", "h(X) :- q(X, Y), q(Y, X)."), ("h(1).", "h(1)."),
                            ("h(X) :- q(X, Y), q(Y, Z), q(X, X).", "h(X) :- q(X, X)."),
                            ("h :- q(X, Y), q(Y, Z), q(Z, W).", "h :- q(X, Y), q(Y, Z), q(Z, W).")):
            self.assertEqual(told_rule(shortest(rule(text))), short)

    def test_a_part_that_is_the_head(self):
        self.assertEqual(told_rule(shortest(rule("h(X) :- h(X), h(Y)."))), "h(X) :- h(X).")

    def test_drawn(self):
        shorter = 0
        for seed in range(150):
            chosen = random.Random(seed)
            one = drawn_simple(chosen, 2)
            short = shortest(one)
            self.assertTrue(alike(one, short))
            left = list(one.body)
            number = 0
            while number < len(left):
                fewer = left[:number] + left[number + 1:]
                names = [name for part in fewer for name in part.names()]
                covered = all(term.name == "" or term.name in names for term in one.terms)
                if covered and alike(one, Rule("h", one.terms, fewer)):
                    left = fewer
                else:
                    number += 1
            self.assertEqual(told_rule(short), told_rule(Rule("h", one.terms, left)))
            shorter += len(short.body) < len(one.body)
        self.assertGreater(shorter, 20)


class NeededTest(unittest.TestCase):
    def needed(self, *texts):
        rules = [rule(text) for text in texts]
        found = needed_rules(rules)
        self.assertIs(type(found), tuple)
        return [[one is other for other in rules].index(True) for one in found]

    def test_the_very_rules(self):
        for texts, numbers in (
                ((), []), (("h(X) :- p(X).",), [0]), (("h(X) :- p(X).", "h(Y) :- p(Y), p(Z)."), [0]),
                (("h(Y) :- p(Y), p(Z).", "h(X) :- p(X)."), [0]), (("h(X) :- p(X), q(X, Y).", "h(X) :- p(X)."), [1]),
                (("h(X) :- p(X).", "h(X) :- p(X), q(X, Y)."), [0]), (("h(X) :- p(X).", "h(X) :- q(X, X)."), [0, 1]),
                (("h(1) :- p(1).", "h(X) :- p(X).", "h(X) :- p(X), p(Y)."), [1]),
                (("h(X) :- q(X, X).", "h(X) :- q(X, Y), q(Y, X).", "h(X) :- q(X, Y)."), [2]),
                (("h(X) :- p(X).", "g(X) :- p(X), q(X, Y)."), [0, 1]), (("g(X) :- p(X).", "h(X) :- p(X)."), [0, 1])):
            self.assertEqual(self.needed(*texts), numbers, texts)

    def test_others_stay_where_they_are(self):
        texts = ["h(X) :- p(X)."]
        for text in NOT_SIMPLE:
            texts += [text, text]
        texts += ["h(X) :- p(X), q(X, X).", "h(X) :- p(X), X < 3."]
        self.assertEqual(self.needed(*texts), list(range(len(texts) - 2)) + [len(texts) - 1])

    def test_drawn(self):
        for seed in range(80):
            chosen = random.Random(seed)
            rules = [drawn_simple(chosen) for _ in range(5)]
            found = needed_rules(rules)
            for one in found:
                for other in found:
                    self.assertTrue(one is other or not within(one, other))
            for _ in range(10):
                table = table_of(drawn_facts(chosen))
                self.assertEqual(set().union(*[oracle.told_by(one, table) for one in found]),
                                 set().union(*[oracle.told_by(one, table) for one in rules]))


class SmallTest(unittest.TestCase):
    def test_like_terms(self):
        for one, other, many in (("h(1, X, a) :- p(X).", "h(1, X, b) :- p(X).", 1), ("h(X) :- p(X).", "h(X) :- p(X).", 0),
                                 ("h(1, '1') :- p(X).", "h('1', 1) :- p(X).", 0), ("h(1, a).", "h(1, a).", 2), ("h.", "h.", 0)):
            self.assertEqual(like_terms(rule(one), rule(other)), many)

    def test_at_value(self):
        one = rule("h(X, Y) :- q(X, Y), not q(Y, X), X < 3, Z := X + Y, p(Z).")
        self.assertEqual(told_rule(at_value(one, "X", -1)), "h(-1, Y) :- q(-1, Y), not q(Y, -1), -1 < 3, Z := -1 + Y, p(Z).")
        self.assertEqual(told_rule(at_value(one, "W", 1)), told_rule(one))
        self.assertEqual(told_rule(at_value(rule("h(Y, count(X)) :- q(X, Y)."), "Y", "it's")),
                         "h('it\\'s', count(X)) :- q(X, 'it\\'s').")
        self.assertEqual(told_rule(one), "h(X, Y) :- q(X, Y), not q(Y, X), X < 3, Z := X + Y, p(Z).")


if __name__ == "__main__":
    unittest.main()
