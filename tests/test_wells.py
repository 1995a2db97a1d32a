"""Wells, [31]: what surely holds, what may hold, and stable stores, where rules ask themselves by a not."""

import itertools
import random
import unittest

import oracle
from deducehall.engines import Engine
from deducehall.errors import BadLayer, DeduceFault
from deducehall.safety import check_rule
from deducehall.stores import store_of
from deducehall.wells import (
    choices, grown, is_settled, is_stable, lacking, least_with, must_be_plain, stable, turns, well,
)

WIN = "win(X) :- move(X, Y), not win(Y)."
LOOSE = "a(X) :- p(X), not b(X). b(X) :- p(X), not a(X)."


def rules(text):
    return oracle.rules_of(text)


def base_of(text):
    return store_of(oracle.facts_of(text))


def long_way(some, facts, denied):
    """Return the least set of rows that has facts and what rules tell, nots asked of another set, the long way."""
    found = set(facts)
    while True:
        table = {name: {row for other, row in found if other == name} for name in {name for name, _ in found}}
        for name, row in denied:
            table.setdefault("not " + name, set()).add(row)
        more = set()
        for rule in some:
            more |= {(rule.name, row) for row in told_with(rule, table)}
        if more <= found:
            return found
        found |= more


def told_with(rule, table):
    """Return what a rule tells, its nots asked of the rows that stand under their names with a not ahead."""
    bounds = oracle.all_bounds(type(rule)(rule.name, (), [part for part in rule.body if part.kind != "neg"]), table)
    own = oracle.open_names(rule)
    for bound in bounds:
        known = {name: value for name, value in bound.items() if name not in own}
        if not any(oracle.fits(part.terms, row, known) is not None for part in rule.body if part.kind == "neg"
                   for row in table.get("not " + part.name, ())):
            yield tuple(oracle.worth(term, bound) for term in rule.terms)


def rows_of(shown):
    return {(name, row) for name, rows in shown for row in rows}


def drawn_rules(chosen, many):
    """Return drawn rules, often beside two that deny each other."""
    found = list(rules("p(X) :- a(X), not s(X). s(X) :- a(X), not p(X).")) if chosen.random() < 0.6 else []
    while len(found) < many:
        rule = oracle.drawn_rule(chosen)
        if rule.summed is None and not rule.reckons():
            found.append(check_rule(rule))
    return tuple(found)


class PlainTest(unittest.TestCase):
    def test_sums_and_reckonings_are_refused(self):
        self.assertIs(must_be_plain(rules(WIN + LOOSE + "h(X) :- p(X), X < 3.")), None)
        for text in ("h(count(X)) :- p(X).", "h(Y) :- p(X), Y := X + 1."):
            some, base = rules(WIN + text), base_of("p(1).")
            for deed, arguments in ((must_be_plain, ()), (well, (base,)), (is_settled, (base,)), (stable, (base,)),
                                    (least_with, (base, base)), (is_stable, (base, base)), (turns, (base,)), (grown, (base,))):
                with self.assertRaises(BadLayer) as caught:
                    deed(some, *arguments)
                self.assertIs(type(caught.exception), BadLayer)


class LeastTest(unittest.TestCase):
    def test_nots_are_asked_of_another_store(self):
        some, base = rules("h(X) :- p(X), not q(X). q(X) :- h(X), not r(_, X). s(X) :- q(X), s(Y). s(0)  :- p(0)."),\
            base_of("p(1). p(2). p(0). q(1).")
        other = base_of("q(2). r(5, 0).")
        self.assertEqual(least_with(some, base, other).shown(), (
            ("h", ((0,), (1,))), ("p", ((0,), (1,), (2,))), ("q", ((1,),)), ("s", ((0,), (1,)))))
        self.assertEqual(base.shown(), (("p", ((0,), (1,), (2,))), ("q", ((1,),))))
        self.assertEqual(other.shown(), (("q", ((2,),)), ("r", ((5, 0),))))
        self.assertEqual(least_with((), base, other).shown(), base.shown())

    def test_lacking(self):
        one, other = base_of("p(w). p(2). p(1). a(1). z."), base_of("p(2). b(1). a(1).")
        self.assertEqual(lacking(one, other), (("p", ((1,), ("w",))), ("z", ((),))))
        self.assertEqual(lacking(other, one), (("b", ((1,),)),))
        self.assertEqual(lacking(one, one), ())


class WellTest(unittest.TestCase):
    def test_moves_of_a_game(self):
        base = base_of("move(a, b). move(b, a). move(b, c). move(c, d). move(e, e). move(f, e). move(f, d).")
        sure, loose = well(rules(WIN), base)
        self.assertEqual(dict(sure)["win"], (("c",), ("f",)))
        self.assertEqual(loose, (("win", (("a",), ("b",), ("e",))),))
        self.assertIs(is_settled(rules(WIN), base), False)

    def test_by_turns(self):
        base = base_of("move(1, 2). move(2, 3). move(3, 4).")
        self.assertEqual(turns(rules(WIN), base), ((0, 6), (4, 5), (5, 5)))
        self.assertEqual(well(rules(WIN), base), ((("move", ((1, 2), (2, 3), (3, 4))), ("win", ((1,), (3,)))), ()))
        self.assertIs(is_settled(rules(WIN), base), True)
        found = grown(rules(WIN), base)
        self.assertIs(type(found), list)
        self.assertEqual([(sure.size(), possible.size()) for sure, possible in found], [(0, 6), (4, 5), (5, 5)])
        self.assertEqual(found[0][0].shown(), ())
        self.assertEqual(found[-1][0].shown(), found[-1][1].shown())

    def test_without_nots(self):
        some, base = rules("t(X, Y) :- e(X, Y). t(X, Z) :- e(X, Y), t(Y, Z)."), base_of("e(1, 2). e(2, 1).")
        self.assertEqual(turns(some, base), ((0, 6), (6, 6)))
        self.assertEqual(well(some, base)[0], Engine(some, oracle.facts_of("e(1, 2). e(2, 1).")).shown())

    def test_nothing(self):
        self.assertEqual(turns(rules(WIN), base_of("")), ((0, 0),))
        self.assertEqual(well(rules(WIN), base_of("")), ((), ()))
        self.assertEqual(stable(rules(WIN), base_of("")), ((),))

    def test_one_that_denies_itself(self):
        some = rules("a :- p, not a.")
        self.assertEqual(well(some, base_of("p.")), ((("p", ((),)),), (("a", ((),)),)))
        self.assertEqual(stable(some, base_of("p.")), ())


class StableTest(unittest.TestCase):
    def test_choices(self):
        self.assertEqual([tuple(choice) for choice in choices(3)], [
            (), (0,), (1,), (0, 1), (2,), (0, 2), (1, 2), (0, 1, 2)])
        self.assertEqual([tuple(choice) for choice in choices(0)], [()])
        self.assertEqual(len(choices(6)), 64)

    def test_two_ways_out(self):
        some, base = rules(LOOSE), base_of("p(1).")
        self.assertEqual(stable(some, base), (
            (("a", ((1,),)), ("p", ((1,),))), (("b", ((1,),)), ("p", ((1,),)))))
        self.assertIs(is_stable(some, base, base_of("p(1). b(1).")), True)
        for text in ("p(1).", "p(1). a(1). b(1).", "a(1).", ""):
            self.assertIs(is_stable(some, base, base_of(text)), False)

    def test_by_choices_of_the_loose_rows(self):
        found = stable(rules(LOOSE), base_of("p(1). p(2)."))
        self.assertEqual([tuple(name + str(row[0]) for name, rows in shown if name != "p" for row in rows) for shown in found],
                         [("a1", "a2"), ("a2", "b1"), ("a1", "b2"), ("b1", "b2")])

    def test_no_more_than_six(self):
        some, base = rules(LOOSE), base_of("p(1). p(2). p(3).")
        self.assertEqual(len(stable(some, base)), 8)
        for count, most in ((4, 6), (3, 5), (1, 1), (1, 0)):
            with self.assertRaises(BadLayer) as caught:
                stable(some, base_of(" ".join(f"p({number})." for number in range(count))), most)
            self.assertIs(type(caught.exception), BadLayer)
        self.assertEqual(len(stable(some, base_of("p(1). p(2). p(3). p(4)."), 8)), 16)
        self.assertEqual(len(stable(some, base_of("p(1)."), 2)), 2)

    def test_what_surely_holds_stays(self):
        some = rules(LOOSE + "c(X) :- a(X). c(X) :- b(X). s(X) :- p(X), not n(X).")
        found = stable(some, base_of("p(1)."))
        self.assertEqual([dict(shown)["s"] for shown in found], [((1,),), ((1,),)])
        self.assertEqual([dict(shown)["c"] for shown in found], [((1,),), ((1,),)])


class DrawnTest(unittest.TestCase):
    def test_against_the_long_way(self):
        several = loose_ones = 0
        for seed in range(150):
            chosen = random.Random(seed)
            some = drawn_rules(chosen, chosen.randint(3, 6))
            facts = sorted({oracle.drawn_fact(chosen) for _ in range(5)}, key=repr)
            base = store_of(facts)
            sure, possible = set(), long_way(some, facts, set())
            by_hand = [(0, len(possible))]
            while long_way(some, facts, possible) != sure:
                sure = long_way(some, facts, possible)
                possible = long_way(some, facts, sure)
                by_hand.append((len(sure), len(possible)))
            self.assertEqual(turns(some, base), tuple(by_hand))
            found = well(some, base)
            self.assertEqual((rows_of(found[0]), rows_of(found[1])), (sure, possible - sure))
            self.assertIs(is_settled(some, base), possible == sure)
            loose = [(name, row) for name, rows in found[1] for row in rows]
            loose_ones += bool(loose)
            if len(loose) > 6:
                with self.assertRaises(BadLayer):
                    stable(some, base)
                continue
            stores = [sure | set(some_of) for size in range(len(loose) + 1)
                      for some_of in itertools.combinations(loose, size)]
            good = [rows for rows in stores if long_way(some, facts, rows) == rows]
            shown = stable(some, base)
            self.assertEqual(len(shown), len(good))
            self.assertTrue(all(rows_of(one) in good for one in shown))
            numbers = [sum(2 ** place for place, row in enumerate(loose) if row in rows_of(one)) for one in shown]
            self.assertEqual(numbers, sorted(numbers))
            several += len(good) > 1
        self.assertTrue(several > 3 and loose_ones > 15, (several, loose_ones))

    def test_rules_that_can_be_laid_are_settled(self):
        for seed in range(60):
            chosen = random.Random(seed)
            some = tuple(rule for rule in oracle.drawn_rules(chosen, 5) if rule.summed is None and not rule.reckons())
            facts = [oracle.drawn_fact(chosen) for _ in range(6)]
            try:
                engine = Engine(some, facts)
            except DeduceFault:
                continue
            self.assertEqual(well(some, store_of(facts)), (engine.shown(), ()))
            self.assertEqual(stable(some, store_of(facts)), (engine.shown(),))


if __name__ == "__main__":
    unittest.main()
