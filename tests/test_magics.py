"""Magics, [21]: rules written anew for a name asked with some places known, and what they tell."""

import itertools
import random
import unittest

import oracle
from deducehall.engines import Engine
from deducehall.errors import BadLayer
from deducehall.magics import Magic, can_be, magic, plain, quick, without_loops
from deducehall.readers import told_rule
from deducehall.rules import names_of
from deducehall.safety import check_rule
from deducehall.terms import val, var

PATHS = oracle.rules_of("path(X, Y) :- edge(X, Y). path(X, Z) :- edge(X, Y), path(Y, Z).")
CHAIN = tuple(("edge", (number, number + 1)) for number in range(20))


def terms_of(*values):
    return tuple(var(value) if isinstance(value, str) and value[0].isupper() else val(value) for value in values)


class MagicTest(unittest.TestCase):
    def test_fields(self):
        one = magic(PATHS, "path", (0,))
        self.assertIsInstance(one, Magic)
        self.assertEqual((tuple(one.rules), one.name, tuple(one.spots)), (PATHS, "path", (0,)))
        self.assertEqual(set(one.called), {("path", (0,))})
        self.assertEqual(one.called[("path", (0,))], (one.target, one.seed()))
        self.assertEqual(list(one.left), [])
        for name in ("path", "edge", one.target, one.seed()):
            self.assertIn(name, one.taken)

    def test_the_rules_written_anew(self):
        one = magic(PATHS, "path", (0,))
        told, asks = one.target, one.seed()
        self.assertEqual(sorted(told_rule(rule) for rule in one.made), sorted([
            f"{told}(X, Y) :- {asks}(X), edge(X, Y).", f"{told}(X, Z) :- {asks}(X), edge(X, Y), {told}(Y, Z).",
            f"{asks}(Y) :- {asks}(X), edge(X, Y).", f"{told}(V0, V1) :- {asks}(V0), path(V0, V1)."]))

    def test_each_told_name_is_asked_ahead(self):
        rules = oracle.rules_of("p(X) :- a(X, Y), q(Y, Z), Z < 5, q(Z, X), b(X). q(X, Y) :- c(X, Y).")
        one = magic(rules, "p", ())
        self.assertEqual(set(one.called), {("p", ()), ("q", (0,)), ("q", (0, 1))})
        asks = [pair[1] for pair in one.called.values()]
        self.assertEqual(len([rule for rule in one.made if rule.name in asks]), 2)
        for rule in one.made:
            check_rule(rule)
            self.assertIn(rule.body[0].name, asks)

    def test_each_name_is_none_of_the_rules(self):
        taken = ["pathx", "path_by0", "path_by", "ask_path_by0", "ask_path_by0x", "path_b", "path_bf", "m_path_bf"]
        rules = PATHS + oracle.rules_of(" ".join(f"{name}(X, Y) :- path(X, Y)." for name in taken))
        for known in ((), (0,), (1,), (0, 1)):
            one = magic(rules, "path", known)
            names = names_of(rules)
            for pair in one.called.values():
                for name in pair:
                    self.assertNotIn(name, names)
            self.assertTrue(all(rule.name not in names for rule in one.made))
            words = [name for pair in one.called.values() for name in pair]
            self.assertEqual(len(words), len(set(words)))

    def test_free(self):
        one = magic(PATHS, "path", (0,))
        self.assertEqual([one.free("edge"), one.free("edge"), one.free("new"), one.free("new")],
                         ["edgex", "edgexx", "new", "newx"])

    def test_name_for(self):
        one = magic(PATHS, "path", (0,))
        self.assertEqual(one.name_for("path", (0,)), one.target)
        name = one.name_for("path", (1,))
        self.assertEqual((name, one.left), (one.called[("path", (1,))][0], [("path", (1,))]))

    def test_without_loops(self):
        rules = oracle.rules_of("p(X) :- p(X). p(X) :- a(X), p(X). p(X) :- p(Y), a(X). p(X, Y) :- p(Y, X). q(X) :- p(X).")
        self.assertEqual(without_loops(rules), [rules[2], rules[3], rules[4]])
        self.assertEqual(without_loops(()), [])

    def test_no_rule_written_asks_for_its_own_head(self):
        rules = oracle.rules_of("p(X, Y) :- p(X, Y), a(X). p(X, Y) :- a(X), p(X, Y), b(Y). p(X, Y) :- c(X, Y).")
        one = magic(rules, "p", (0,))
        self.assertEqual(without_loops(one.made), list(one.made))


class CanBeTest(unittest.TestCase):
    RULES = """p(X) :- q(X), a(X). q(X) :- b(X), X < 3. n(X) :- q(X), not a(X). s(count(X)) :- q(X).
               l(Y) :- q(X), Y := X + 1. over(X) :- n(X). r(X) :- r(X), s(X). both(X) :- p(X), over(X)."""

    def test_in_what_is_asked_alone(self):
        rules = oracle.rules_of(self.RULES)
        for name, answer in (("p", True), ("q", True), ("a", True), ("nobody", True), ("n", False), ("s", False),
                             ("l", False), ("over", False), ("r", False), ("both", False)):
            self.assertIs(can_be(rules, name), answer, name)
            if not answer:
                with self.assertRaises(BadLayer):
                    magic(rules, name, (0,))
                with self.assertRaises(BadLayer):
                    quick(rules, (), name, terms_of(1))
        self.assertEqual(quick(rules, oracle.facts_of("a(1). a(2). b(1). b(5)."), "p", terms_of("X"))[0], ((1,),))

    def test_rules_that_ask_for_the_name_do_not_matter(self):
        rules = PATHS + oracle.rules_of("none(X) :- node(X), not path(X, Y). far(count(X)) :- path(X, Y).")
        self.assertEqual(quick(rules, CHAIN, "path", terms_of(17, "Y"))[0], ((17, 18), (17, 19), (17, 20)))


class QuickTest(unittest.TestCase):
    def test_only_what_is_needed_is_told(self):
        self.assertEqual(quick(PATHS, CHAIN, "path", terms_of(17, "Y")), (((17, 18), (17, 19), (17, 20)), 9))
        self.assertEqual(quick(PATHS, CHAIN, "path", terms_of(17, 20))[0], ((17, 20),))
        self.assertEqual(quick(PATHS, CHAIN, "path", terms_of(20, "Y")), ((), 0))
        self.assertEqual(quick(PATHS, CHAIN, "path", terms_of(99, "Y")), ((), 0))

    def test_how_many_rows_were_told(self):
        rules = oracle.rules_of("p(X) :- a(X), q(X). q(X) :- b(X).")
        facts = oracle.facts_of("a(1). a(2). b(1). b(3). b(4).")
        # Both rows of a are asked of q, which tells one; p tells it, too.
        self.assertEqual(quick(rules, facts, "p", terms_of("X")), (((1,),), 4))
        # The row that starts it isn't told by a rule; q is asked for one row.
        self.assertEqual(quick(rules, facts, "p", terms_of(1)), (((1,),), 3))
        self.assertEqual(quick(rules, facts, "p", terms_of(2)), ((), 1))
        self.assertEqual(quick(rules, facts, "q", terms_of(1)), (((1,),), 1))

    def test_rings(self):
        rules = oracle.rules_of("e(X) :- o(Y), n(Y, X). o(X) :- e(Y), n(Y, X).")
        facts = oracle.facts_of("e(0). n(0, 1). n(1, 2). n(2, 3). n(3, 0). n(7, 8). o(7).")
        self.assertEqual(quick(rules, facts, "e", terms_of("X"))[0], ((0,), (2,), (8,)))
        self.assertEqual(quick(rules, facts, "o", terms_of(3))[0], ((3,),))
        self.assertEqual(quick(rules, facts, "o", terms_of(2))[0], ())

    def test_facts_of_names_that_have_rules(self):
        facts = CHAIN + (("path", (19, 50)), ("path", (50, 51)))
        self.assertEqual(quick(PATHS, facts, "path", terms_of(18, "Y"))[0], ((18, 19), (18, 20), (18, 50)))
        self.assertEqual(quick(PATHS, facts, "path", terms_of(50, "Y"))[0], ((50, 51),))
        self.assertEqual(quick(PATHS, facts, "path", terms_of("X", 51))[0], ((50, 51),))

    def test_names_of_facts_alone(self):
        self.assertEqual(quick(PATHS, CHAIN, "edge", terms_of(3, "Y"))[0], ((3, 4),))
        facts = oracle.facts_of("c(1, 2). c(1, 3). c(2, 2). d.")
        for terms, rows in ((("X", "Y"), ((1, 2), (1, 3), (2, 2))), ((1, "Y"), ((1, 2), (1, 3))), (("X", "X"), ((2, 2),)),
                            (("X", 2), ((1, 2), (2, 2))), ((2, 1), ())):
            self.assertEqual(quick(PATHS, facts, "c", terms_of(*terms))[0], rows)
        self.assertEqual(quick(PATHS, facts, "d", ())[0], ((),))
        self.assertEqual(quick((), facts, "d", ())[0], ((),))

    def test_a_name_that_nobody_knows(self):
        self.assertEqual(quick(PATHS, CHAIN, "nobody", terms_of(1, "Y")), ((), 0))
        self.assertEqual(quick((), (), "nobody", ()), ((), 0))
        self.assertEqual(quick(PATHS, CHAIN, "nobody", ()), ((), 0))

    def test_a_name_twice_in_the_terms(self):
        facts = oracle.facts_of("edge(1, 2). edge(2, 1). edge(3, 1).")
        self.assertEqual(quick(PATHS, facts, "path", terms_of("X", "X"))[0], ((1, 1), (2, 2)))

    def test_terms_of_another_count_than_places(self):
        for terms in ((1,), (1, "Y", "Z"), ("X", 1, 2), ()):
            self.assertEqual(quick(PATHS, CHAIN, "path", terms_of(*terms))[0], ())

    def test_facts_of_other_names_do_not_matter(self):
        one = magic(PATHS, "path", (0,))
        facts = CHAIN + ((one.target, (17, 99)), (one.seed(), (1,)))
        self.assertEqual(quick(PATHS, facts, "path", terms_of(17, "Y")), quick(PATHS, CHAIN, "path", terms_of(17, "Y")))

    def test_each_choice_of_places_known(self):
        many = 0
        for seed in range(100):
            chosen = random.Random(seed)
            rules = oracle.drawn_rules(chosen, chosen.randint(1, 6), True)
            engine = Engine(rules, [oracle.drawn_fact(chosen) for _ in range(10)])
            for name, count in oracle.COUNTS.items():
                for choice in itertools.product((False, True), repeat=count):
                    terms = [val(chosen.choice(oracle.VALUES)) if known else var(chosen.choice("XY")) for known in choice]
                    rows, told = quick(engine.rules, engine.facts(), name, terms)
                    self.assertEqual(rows, plain(engine, name, terms))
                    self.assertGreaterEqual(told, len(rows))
                    many += rows != ()
        self.assertGreater(many, 100)


class PlainTest(unittest.TestCase):
    def test_rows_that_fit(self):
        engine = Engine(PATHS, oracle.facts_of("edge(2, 1). edge(1, w). edge(1, 1)."))
        for terms, rows in ((("X", "Y"), ((1, 1), (1, "w"), (2, 1), (2, "w"))), ((1, "Y"), ((1, 1), (1, "w"))),
                            (("X", "X"), ((1, 1),)), ((2, "w"), ((2, "w"),)), ((3, "Y"), ()), (("X",), ())):
            self.assertEqual(plain(engine, "path", terms_of(*terms)), rows)
        self.assertEqual(plain(engine, "nobody", terms_of("X")), ())
        self.assertEqual(plain(Engine((), [("d", ())]), "d", ()), ((),))


if __name__ == "__main__":
    unittest.main()
