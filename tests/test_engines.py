"""Engines, [18] (with [1], [7], [10], [13], [15] to [17]): rules over facts, kept up change by change."""

import random
import unittest

import oracle
from deducehall.counts import Count
from deducehall.engines import Engine, check_rows, many_changes, one_change
from deducehall.errors import BadKind, BadLayer, BadRule, BadSize, DeduceFault, NoSuch
from deducehall.readers import told_rule
from deducehall.redo import Redo
from deducehall.rules import Rule, pos
from deducehall.stores import Changes, apart
from deducehall.terms import val, var

MOST = 999999999999999999
PATHS = """path(X, Y) :- edge(X, Y). path(X, Z) :- edge(X, Y), path(Y, Z).
           far(X, count(Y)) :- path(X, Y). apart(X, Y) :- node(X), node(Y), not path(X, Y)."""


def engine_of(rules="", facts=""):
    return Engine(oracle.rules_of(rules), oracle.facts_of(facts))


def changes_of(came="", went=""):
    return many_changes([(name, row, False) for name, row in oracle.facts_of(went)]
                        + [(name, row, True) for name, row in oracle.facts_of(came)])


def all_of(engine):
    """Return all that an engine is, keepers too."""
    keepers = []
    for keeper in engine.keepers:
        if isinstance(keeper, Redo):
            keepers.append((keeper.ring, [dict(told) for told in keeper.sums]))
        else:
            keepers.append((keeper.name, dict(keeper.ways), [
                (number, set(ledger.brought), ledger.rows()) for number, ledger in keeper.ledgers.items()]))
    return (engine.rules, engine.facts(), engine.base.shown(), engine.places.shown(), engine.order, keepers,
            engine.store.shown(), engine.shown())


class EngineCase(unittest.TestCase):
    def refused(self, error, engine, deed, *arguments):
        """Hold that a deed is refused with just that error and changes nothing."""
        before = all_of(engine)
        with self.assertRaises(error) as caught:
            deed(*arguments)
        self.assertIs(type(caught.exception), error)
        self.assertEqual(all_of(engine), before)

    def as_new(self, engine):
        """Hold that an engine is as a new one of its rules and facts, and as worked out the long way."""
        self.assertEqual(all_of(engine), all_of(Engine(engine.rules, engine.facts())))
        self.assertEqual(engine.shown(), oracle.shown(oracle.model_of(engine.rules, engine.facts())))


class MakingTest(EngineCase):
    def test_fields(self):
        rules = oracle.rules_of(PATHS)
        engine = Engine(rules, oracle.facts_of("edge(1, 2). node(1). other(5)."))
        self.assertEqual(engine.rules, rules)
        self.assertEqual(engine.base.shown(), (("edge", ((1, 2),)), ("node", ((1,),)), ("other", ((5,),))))
        self.assertEqual(engine.store.shown(), engine.shown())
        self.assertEqual(engine.places.shown(), (("apart", 2), ("edge", 2), ("far", 2), ("node", 1), ("path", 2)))
        self.assertEqual(engine.order, (("edge",), ("node",), ("path",), ("apart",), ("far",)))
        kinds = [(type(keeper), keeper.ring if isinstance(keeper, Redo) else keeper.name) for keeper in engine.keepers]
        self.assertEqual(kinds, [(Count, "edge"), (Count, "node"), (Redo, ("path",)), (Count, "apart"), (Count, "far")])

    def test_bare(self):
        engine = Engine()
        self.assertEqual((engine.rules, engine.facts(), engine.shown(), engine.order, tuple(engine.keepers)),
                         ((), (), (), (), ()))

    def test_one_rule_twice_in_other_words_too(self):
        engine = engine_of("p(X) :- a(X, Y). p(B) :- a(B, A). p(X) :- a(Y, X). p(X) :- a(X, _). p(X) :- a(X, Y).",
                           "a(1, 2).")
        self.assertEqual([told_rule(rule) for rule in engine.rules], ["p(X) :- a(X, Y).", "p(X) :- a(Y, X)."])
        self.assertEqual(engine.keepers[1].ways_of((1,)), 1)

    def test_a_fact_among_rules(self):
        for text in ("p(1).", "a(X) :- b(X). p.", "p('X', 2)."):
            with self.assertRaises(BadRule):
                engine_of(text)
        engine = Engine()
        self.refused(BadRule, engine, engine.with_rules, oracle.rules_of("p(1)."))
        self.assertEqual(engine_of("p(1) :- a(X).", "a(2).").rows("p"), ((1,),))

    def test_rules_that_are_refused(self):
        for error, text in ((BadRule, "p(X)."), (BadRule, "p(X) :- not a(X)."), (BadRule, "not(X) :- a(X)."),
                            (BadKind, "p(X) :- a(X). q(X) :- a(X, X)."), (BadKind, "p(X) :- p(X, X)."),
                            (BadLayer, "p(X) :- a(X), not p(X)."), (BadLayer, "p(count(X)) :- p(X)."),
                            (BadLayer, "p(X) :- p(Y), X := Y + 1."), (BadRule, "p(X) :- a(X), X := 1 + 2.")):
            with self.assertRaises(error, msg=text):
                engine_of(text)
        with self.assertRaises(BadSize):
            Engine([Rule("p", [var("X")], [pos("a", [var("X"), val(MOST + 1)])])])

    def test_a_fact_handed_in_twice_is_one(self):
        engine = Engine((), [("a", (1,)), ("b", (2,)), ("a", (1,))])
        self.assertEqual(engine.facts(), (("a", (1,)), ("b", (2,))))
        self.assertEqual(engine.take("a", (1,)).shown(), (("a", (), ((1,),)),))

    def test_facts_that_are_refused(self):
        rules = oracle.rules_of("p(X) :- a(X).")
        for error, facts in ((BadRule, [("not", (1,))]), (BadRule, [("A", (1,))]), (BadRule, [("", ())]),
                             (BadSize, [("a", (MOST + 1,))]), (BadSize, [("q", ("x", -MOST - 1))]),
                             (BadKind, [("a", (1, 2))]), (BadKind, [("p", ())]), (BadKind, [("q", (1,)), ("q", ())])):
            with self.assertRaises(error) as caught:
                Engine(rules, facts)
            self.assertIs(type(caught.exception), error)
        self.assertEqual(Engine(rules, [("count", (MOST,)), ("q", (-MOST, "w w"))]).rows("q"), ((-MOST, "w w"),))


class TellingTest(EngineCase):
    def test_facts_in_order(self):
        engine = engine_of("", "b(w). b(2). b(10). a(1, 2). b(-3).")
        self.assertEqual(engine.facts(), (("a", (1, 2)), ("b", (-3,)), ("b", (2,)), ("b", (10,)), ("b", ("w",))))
        self.assertEqual(engine.rows("b"), ((-3,), (2,), (10,), ("w",)))

    def test_rows_where_rules_or_facts_know_the_name(self):
        engine = engine_of("p(X) :- a(X), not b(X).", "c(1). a(2).")
        self.assertEqual([engine.rows(name) for name in "abcp"], [((2,),), (), ((1,),), ((2,),)])
        for name in ("d", "", "not"):
            self.refused(NoSuch, engine, engine.rows, name)
        engine.take("c", (1,))
        self.refused(NoSuch, engine, engine.rows, "c")
        self.assertIs(engine.has("c", (1,)), False)
        engine.take("a", (2,))
        self.assertEqual(engine.rows("a"), ())

    def test_has(self):
        engine = engine_of(PATHS, "edge(1, 2). edge(2, 3).")
        for name, row, told in (("path", (1, 3), True), ("path", (3, 1), False), ("edge", (1, 2), True),
                                ("nobody", (1,), False), ("path", (1,), False), ("path", ("1", "3"), False)):
            self.assertIs(engine.has(name, row), told)

    def test_a_name_that_nobody_knows_has_no_rows_in_bodies(self):
        engine = engine_of("p(X) :- a(X), nobody(X). q(X) :- a(X), not nobody(X).", "a(1).")
        self.assertEqual((engine.rows("p"), engine.rows("q"), engine.rows("nobody")), ((), ((1,),), ()))

    def test_places(self):
        engine = engine_of("p(X) :- a(X, Y).", "b(1, 2, 3).")
        self.assertEqual([engine.places_for(name) for name in ("p", "a", "b", "c")], [1, 2, 3, None])
        changes = many_changes([("b", (1, 2, 3), False), ("b", (1,), True), ("c", (1, 2), True), ("c", (), True)])
        self.assertEqual([engine.places_after(name, changes) for name in ("p", "a", "b", "c", "d")],
                         [1, 2, 1, 2, None])
        changes = many_changes([("b", (1,), True)])
        self.assertEqual(engine.places_after("b", changes), 3)
        self.assertIs(engine.places_after("b", many_changes([("b", (1, 2, 3), False)])), None)

    def test_check_names(self):
        engine = Engine()
        self.assertEqual(engine.check_names(("p", "count", "aB_1")), ("p", "count", "aB_1"))
        for name in ("not", "X", "_a", "1a", "", "a b"):
            with self.assertRaises(BadRule):
                engine.check_names(["p", name])

    def test_check_rows(self):
        rows = [(1, "w"), (MOST, -MOST), ()]
        self.assertEqual(check_rows(rows), rows)
        for value in (MOST + 1, -MOST - 1):
            with self.assertRaises(BadSize):
                check_rows([(1,), ("w", value)])


class ChangesTest(EngineCase):
    def test_all_that_came_and_went(self):
        engine = engine_of(PATHS, "edge(1, 2). node(1). node(3).")
        changes = engine.put("edge", (2, 3))
        self.assertIsInstance(changes, Changes)
        self.assertEqual(changes.shown(), (
            ("apart", (), ((1, 3),)), ("edge", ((2, 3),), ()), ("far", ((1, 2), (2, 1)), ((1, 1),)),
            ("path", ((1, 3), (2, 3)), ())))
        self.as_new(engine)
        self.assertEqual(engine.take("edge", (2, 3)).shown(), changes.turned().shown())
        self.as_new(engine)

    def test_a_fact_put_in_that_is_told_and_taken_out_that_is_still_told(self):
        engine = engine_of("p(X) :- a(X). q(X) :- p(X). q(X) :- q(X), a(X).", "a(1).")
        for name in ("p", "q"):
            self.assertEqual(engine.put(name, (1,)).shown(), ())
            self.assertIn((name, (1,)), engine.facts())
            self.as_new(engine)
            self.assertEqual(engine.take(name, (1,)).shown(), ())
            self.assertNotIn((name, (1,)), engine.facts())
            self.as_new(engine)

    def test_a_fact_that_stays_as_one_when_rules_tell_it_no_more(self):
        engine = engine_of("p(X) :- a(X). q(X) :- p(X).", "a(1). p(1).")
        self.assertEqual(engine.take("a", (1,)).shown(), (("a", (), ((1,),)),))
        self.assertEqual(engine.take("p", (1,)).shown(), (("p", (), ((1,),)), ("q", (), ((1,),))))

    def test_names_that_no_rule_knows(self):
        engine = engine_of("p(X) :- a(X).", "b(1).")
        self.assertEqual(engine.put("b", (2,)).shown(), (("b", ((2,),), ()),))
        self.assertEqual(engine.take_in(changes_of("c(1, 2). a(1).", "b(1).")).shown(),
                         (("a", ((1,),), ()), ("b", (), ((1,),)), ("c", ((1, 2),), ()), ("p", ((1,),), ())))
        self.as_new(engine)

    def test_put_in_and_taken_out_in_one_change(self):
        engine = engine_of("p(X) :- a(X).", "a(1).")
        steps = [("a", (2,), True), ("a", (1,), False), ("a", (2,), False), ("a", (1,), True), ("a", (3,), True)]
        self.assertEqual(many_changes(steps).shown(), (("a", ((3,),), ()),))
        self.assertEqual(engine.take_in(many_changes(steps)).shown(), (("a", ((3,),), ()), ("p", ((3,),), ())))
        self.assertEqual(engine.take_in(many_changes(steps[:4])).shown(), ())
        self.assertEqual(engine.take_in(Changes()).shown(), ())

    def test_one_change(self):
        self.assertEqual(one_change("a", (1,), True).shown(), (("a", ((1,),), ()),))
        self.assertEqual(one_change("a", (1,), False).shown(), (("a", (), ((1,),)),))

    def test_the_changes_handed_in_stay(self):
        engine = engine_of("p(X) :- a(X).", "a(1).")
        based = changes_of("a(2).", "a(1).")
        shown = based.shown()
        changes = engine.take_in(based)
        self.assertEqual(based.shown(), shown)
        changes.note("p", (9,), True)
        self.as_new(engine)

    def test_names_of_no_places(self):
        engine = engine_of("p :- a, not b. q(count(X)) :- c(X), p.", "c(1). c(2).")
        self.assertEqual(engine.put("a", ()).shown(), (("a", ((),), ()), ("p", ((),), ()), ("q", ((2,),), ())))
        self.assertEqual(engine.put("b", ()).shown(), (("b", ((),), ()), ("p", (), ((),)), ("q", (), ((2,),))))
        self.assertEqual(engine.put("d", ()).shown(), (("d", ((),), ()),))
        self.refused(BadKind, engine, engine.put, "d", (1,))
        self.as_new(engine)

    def test_figures_and_words_in_sums(self):
        engine = engine_of("s(X, sum(Y)) :- a(X, Y). m(least(Y)) :- a(X, Y). r(Z) :- a(X, Y), Z := Y * 2.", "a(1, 5).")
        self.assertEqual(engine.put("a", (1, MOST)).shown(), (("a", ((1, MOST),), ()), ("s", (), ((1, 5),))))
        self.assertEqual(engine.put("a", (1, -MOST)).shown()[1:], (
            ("m", ((-MOST,),), ((5,),)), ("s", ((1, 5),), ())))
        self.assertEqual(engine.put("a", (1, "w")).shown()[1:], (("s", (), ((1, 5),)),))
        self.assertEqual(engine.take_in(changes_of("a(2, 1).", "a(1, w).")).shown()[1:],
                         (("r", ((2,),), ()), ("s", ((1, 5), (2, 1)), ())))
        self.as_new(engine)

    def test_chains_of_nots_over_rings(self):
        engine = engine_of("""r(X) :- s(X). r(Y) :- r(X), e(X, Y). u(X) :- n(X), not r(X).
                              t(X) :- u(X). t(Y) :- t(X), e(X, Y), u(Y). v(X) :- n(X), not t(X), not z(X, _).""",
                           "n(1). n(2). n(3). n(4). e(1, 2). e(2, 3). e(3, 1). e(4, 3). s(1). z(4, 4).")
        self.as_new(engine)
        for came, went in (("", "s(1)."), ("s(4).", "e(3, 1)."), ("z(1, 1). e(2, 1).", "z(4, 4). s(4)."),
                           ("s(2). s(3).", "n(1). e(1, 2).")):
            engine.take_in(changes_of(came, went))
            self.as_new(engine)


class RefusedTest(EngineCase):
    def test_one_by_one(self):
        engine = engine_of("p(X) :- a(X).", "a(1). b(1, 2).")
        for error, came, went in ((NoSuch, "", "a(2)."), (NoSuch, "a(1).", ""), (NoSuch, "", "c(1)."),
                                  (BadKind, "a(1, 2).", ""), (BadKind, "p(1, 2).", ""), (BadKind, "b(1).", ""),
                                  (BadKind, "c(1). c(1, 2).", ""), (NoSuch, "", "p(1)."), (NoSuch, "", "b(1).")):
            self.refused(error, engine, engine.take_in, changes_of(came, went))
        self.refused(NoSuch, engine, engine.put, "a", (1,))
        self.refused(NoSuch, engine, engine.take, "a", (2,))
        self.refused(NoSuch, engine, engine.take, "p", (1,))
        self.refused(BadKind, engine, engine.put, "a", ())
        self.refused(BadRule, engine, engine.put, "not", (1,))
        self.refused(BadRule, engine, engine.take, "X", (1,))
        self.refused(BadSize, engine, engine.put, "a", (MOST + 1,))
        self.refused(BadSize, engine, engine.put, "d", (1, -MOST - 1))
        self.assertEqual(engine.put("a", (MOST,)).shown()[0], ("a", ((MOST,),), ()))

    def test_taken_in_whole_or_not_at_all(self):
        engine = engine_of("p(X) :- a(X).", "a(1).")
        self.refused(BadKind, engine, engine.take_in, changes_of("a(2). b(1). z(1). z(1, 2).", "a(1)."))
        self.as_new(engine)

    def test_several_due_for_one_name(self):
        engine = engine_of("p(X) :- a(X).", "a(1).")
        long = ("a", (MOST + 1, 2), True)
        wrong = ("a", (1, 2), True)
        gone = ("a", (7,), False)
        again = ("a", (1,), True)
        self.refused(NoSuch, engine, engine.take_in, many_changes([wrong, long, gone]))
        self.refused(NoSuch, engine, engine.take_in, many_changes([wrong, again, long]))
        self.refused(BadSize, engine, engine.take_in, many_changes([wrong, long]))
        self.refused(BadKind, engine, engine.take_in, many_changes([wrong, ("a", (2,), True)]))
        self.refused(BadRule, engine, engine.take_in, many_changes([("not", (MOST + 1,), True), ("not", (1,), False)]))

    def test_several_due_for_several_names(self):
        engine = engine_of("p(X) :- a(X). q(X) :- z(X).", "a(1).")
        for error, steps in ((BadKind, [("z", (1,), False), ("a", (1, 2), True)]),
                             (NoSuch, [("a", (5,), False), ("z", (1, 2), True)]),
                             (BadKind, [("not", (1,), True), ("a", (1, 2), True)]),
                             (BadRule, [("not", (1,), True), ("z", (1, 2), True)]),
                             (BadSize, [("a", (MOST + 1,), True), ("not", (1,), True), ("b", (1,), False)])):
            self.refused(error, engine, engine.take_in, many_changes(steps))

    def test_checked(self):
        engine = engine_of("p(X) :- a(X).", "a(1).")
        changes = changes_of("a(2).", "a(1).")
        self.assertIs(engine.checked(changes), changes)
        self.assertEqual(engine.facts(), (("a", (1,)),))
        self.refused(NoSuch, engine, engine.checked, changes_of("", "a(2)."))


class PlacesTest(EngineCase):
    def test_by_rules(self):
        engine = engine_of("p(X) :- a(X), not b(X, X).")
        for name, row in (("p", ()), ("a", (1, 2)), ("b", (1,))):
            self.refused(BadKind, engine, engine.put, name, row)
        engine.put("b", (1, 2))

    def test_by_facts_that_stay(self):
        engine = engine_of("", "c(1). c(2).")
        self.refused(BadKind, engine, engine.take_in, changes_of("c(1, 2).", "c(1)."))
        self.assertEqual(engine.take_in(changes_of("c(1, 2).", "c(1). c(2).")).shown(),
                         (("c", ((1, 2),), ((1,), (2,))),))

    def test_by_the_first_that_comes(self):
        engine = Engine()
        steps = [("c", (1, 2), True), ("c", (3, 4), True)]
        engine.take_in(many_changes(steps))
        self.assertEqual(engine.places_for("c"), 2)
        other = Engine()
        self.refused(BadKind, other, other.take_in, many_changes([("c", (1, 2), True), ("c", (1,), True)]))
        self.refused(BadKind, other, other.take_in, many_changes([("c", (1,), True), ("c", (1, 2), True)]))

    def test_after_all_its_facts_went(self):
        engine = engine_of("", "c(1).")
        engine.take("c", (1,))
        self.assertIs(engine.places_for("c"), None)
        engine.put("c", (1, 2, 3))
        self.assertEqual(engine.places_for("c"), 3)


class OtherRulesTest(EngineCase):
    FACTS = "edge(1, 2). edge(2, 3). node(1). node(3). lone(7)."

    def renewed(self, engine, rules, came="", went=""):
        before = engine.store.twin()
        facts = [fact for fact in engine.facts() if fact not in oracle.facts_of(went)] + list(oracle.facts_of(came))
        based = changes_of(came, went)
        told = engine.renew(oracle.rules_of(rules), based) if came or went else engine.with_rules(oracle.rules_of(rules))
        self.assertIsInstance(told, Changes)
        self.assertEqual(told.shown(), apart(before, engine.store).shown())
        self.assertEqual(all_of(engine)[1:], all_of(Engine(oracle.rules_of(rules), facts))[1:])
        self.assertEqual([told_rule(rule) for rule in engine.rules],
                         [told_rule(rule) for rule in Engine(oracle.rules_of(rules)).rules])
        self.as_new(engine)
        return told.shown()

    def test_the_difference_is_told(self):
        engine = engine_of(PATHS, self.FACTS)
        self.assertEqual(self.renewed(engine, "path(X, Y) :- edge(X, Y). new(X) :- lone(X). new(A) :- lone(A)."), (
            ("apart", (), ((1, 1), (3, 1), (3, 3))), ("far", (), ((1, 2), (2, 1))), ("new", ((7,),), ()),
            ("path", (), ((1, 3),))))
        self.assertEqual(self.renewed(engine, "path(X, Y) :- edge(X, Y)."), (("new", (), ((7,),)),))
        self.assertEqual(self.renewed(engine, "path(X, Y) :- edge(X, Y)."), ())
        self.assertEqual(self.renewed(engine, ""), (("path", (), ((1, 2), (2, 3))),))

    def test_with_changes_of_facts(self):
        engine = engine_of("p(X) :- lone(X).", self.FACTS)
        self.assertEqual(self.renewed(engine, "p(X) :- lone(X), node(X).", "node(7). extra(1).", "node(1)."),
                         (("extra", ((1,),), ()), ("node", ((7,),), ((1,),))))
        self.assertEqual(self.renewed(engine, "extra(X, Y) :- edge(X, Y).", "", "extra(1)."),
                         (("extra", ((1, 2), (2, 3)), ((1,),)), ("p", (), ((7,),))))
        self.assertEqual(self.renewed(engine, "", "extra(1, 1).", "edge(1, 2)."),
                         (("edge", (), ((1, 2),)), ("extra", ((1, 1),), ((1, 2), (2, 3)))))

    def test_goes_on_as_a_new_one(self):
        engine = engine_of(PATHS, self.FACTS)
        self.renewed(engine, PATHS + " loop(X) :- path(X, X).")
        for came, went in (("edge(3, 1).", ""), ("", "edge(1, 2).")):
            engine.take_in(changes_of(came, went))
            self.as_new(engine)

    def test_refused(self):
        engine = engine_of(PATHS, self.FACTS)
        for error, text in ((BadRule, "p(X)."), (BadRule, "p(1)."), (BadRule, "p(X) :- a(Y)."),
                            (BadKind, "p(X) :- edge(X)."), (BadKind, "p(X) :- a(X), a(X, X)."), (BadKind, "node :- a(X)."),
                            (BadLayer, "p(X) :- a(X), not p(X)."), (BadLayer, "p(X) :- p(Y), X := Y + 1."),
                            (BadLayer, "p(most(X)) :- p(X).")):
            self.refused(error, engine, engine.with_rules, oracle.rules_of(text))
            self.refused(error, engine, engine.renew, oracle.rules_of(text), changes_of("node(9)."))
        long = [Rule("p", [val(MOST + 1)], [pos("lone", [var("X")])])]
        self.refused(BadSize, engine, engine.with_rules, long)
        rules = oracle.rules_of("p(X) :- lone(X).")
        for error, changes in ((NoSuch, changes_of("", "lone(8).")), (NoSuch, changes_of("lone(7).")),
                               (BadKind, changes_of("lone(7, 7).")), (BadKind, changes_of("p(1, 2).")),
                               (BadKind, changes_of("edge(1).")), (BadSize, one_change("lone", (MOST + 1,), True)),
                               (BadRule, one_change("not", (1,), True))):
            self.refused(error, engine, engine.renew, rules, changes)
        self.as_new(engine)

    def test_facts_that_stay_with_other_places_than_the_rules_say(self):
        engine = engine_of("", "c(1). d(1).")
        self.refused(BadKind, engine, engine.with_rules, oracle.rules_of("c(X, Y) :- d(X), d(Y)."))
        self.refused(BadKind, engine, engine.renew, oracle.rules_of("p(X) :- c(X, X)."), changes_of("c(1, 1)."))
        self.assertEqual(self.renewed(engine, "p(X) :- c(X, X).", "c(1, 1).", "c(1)."),
                         (("c", ((1, 1),), ((1,),)), ("p", ((1,),), ())))

    def test_lay(self):
        engine = engine_of(PATHS, self.FACTS)
        before = all_of(engine)
        self.assertIs(engine.lay(), None)
        self.assertEqual(all_of(engine), before)


class DrawnTest(EngineCase):
    """One drawn engine by several orders of the same changes, each time the same as a new one."""

    def test_changes_at_once_one_by_one_and_turned_back(self):
        redos = 0
        for seed in range(120):
            chosen = random.Random(seed)
            rules = oracle.drawn_rules(chosen, chosen.randint(1, 6))
            facts = [oracle.drawn_fact(chosen) for _ in range(8)]
            engine, other = Engine(rules, facts), Engine(rules, facts)
            redos += any(isinstance(keeper, Redo) for keeper in engine.keepers)
            steps = oracle.drawn_steps(chosen, 6, engine.base.has)
            first = engine.shown()
            told = engine.take_in(many_changes(steps))
            self.as_new(engine)
            for order in (steps, steps[::-1]):
                together = Changes()
                for name, row, came in order:
                    changes = other.put(name, row) if came else other.take(name, row)
                    for changed in changes.names():
                        for gone in changes.went(changed):
                            together.note(changed, gone, False)
                        for new in changes.came(changed):
                            together.note(changed, new, True)
                self.assertEqual(all_of(other)[1:], all_of(engine)[1:])
                self.assertEqual(together.shown(), told.shown())
                back = other.take_in(many_changes(steps).turned())
                self.assertEqual((back.shown(), other.shown()), (told.turned().shown(), first))
            engine.take_in(many_changes(steps).turned())
            self.assertEqual(all_of(engine)[1:], all_of(other)[1:])
        self.assertGreater(redos, 20)

    def test_other_rules(self):
        for seed in range(60):
            chosen = random.Random(1000 + seed)
            facts = [oracle.drawn_fact(chosen) for _ in range(8)]
            engine = Engine(oracle.drawn_rules(chosen, 4), facts)
            for _ in range(3):
                rules = oracle.drawn_rules(chosen, 4)
                before = engine.store.twin()
                told = engine.renew(rules, many_changes(oracle.drawn_steps(chosen, 3, engine.base.has)))
                self.assertEqual(told.shown(), apart(before, engine.store).shown())
                self.as_new(engine)

    def test_refused_changes_change_nothing(self):
        refusals = 0
        for seed in range(60):
            chosen = random.Random(2000 + seed)
            engine = Engine(oracle.drawn_rules(chosen, 4), [oracle.drawn_fact(chosen) for _ in range(6)])
            steps = [oracle.drawn_fact(chosen) + (chosen.random() < 0.5,) for _ in range(3)]
            before = all_of(engine)
            try:
                engine.take_in(many_changes(steps))
            except DeduceFault:
                refusals += 1
                self.assertEqual(all_of(engine), before)
            self.as_new(engine)
        self.assertGreater(refusals, 20)

    def test_rules_in_other_words_and_order(self):
        for seed in range(80):
            chosen = random.Random(3000 + seed)
            rules = oracle.drawn_rules(chosen, 5)
            facts = [oracle.drawn_fact(chosen) for _ in range(8)]
            others = []
            for rule in rules:
                names = list(rule.names())
                chosen.shuffle(names)
                table = {name: f"N{number}" for number, name in enumerate(names)}
                body = list(rule.body)
                chosen.shuffle(body)
                others.append(Rule(rule.name, rule.terms, body, rule.summed).with_names(table))
            chosen.shuffle(others)
            self.assertEqual(Engine(rules, facts).shown(), Engine(others, facts[::-1]).shown())


if __name__ == "__main__":
    unittest.main()
