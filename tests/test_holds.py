"""Holds, [24] (with [18], [22], [23] and [34]): transactions begun, marked, gone back, kept, thrown away."""

import random
import unittest

import oracle
from deducehall.bounds import Bounds
from deducehall.engines import Engine, many_changes
from deducehall.errors import (
    BadDeed, BadKind, BadLayer, BadRule, BadSize, Broken, DeduceFault, NoSuch,
)
from deducehall.holds import Hold, at_once, done
from deducehall.readers import read, told_rule
from deducehall.stores import apart
from deducehall.watches import Watches

RULES = "path(X, Y) :- edge(X, Y). path(X, Z) :- edge(X, Y), path(Y, Z)."
FACTS = "edge(1, 2). edge(2, 3). flag(w)."


def hold_of(rules=RULES, facts=FACTS, bounds=(), watches=()):
    hold = Hold(Engine(oracle.rules_of(rules), oracle.facts_of(facts)), Bounds(), Watches())
    for text in bounds:
        hold.bounds.set_bound(read(text)[0].body, hold.engine)
    for word, text in watches:
        hold.watches.set_watch(word, text, hold.engine)
    return hold


def all_of(hold):
    """Return all that a hold's engine tells, and what the hold itself says."""
    engine = hold.engine
    kept = ([told_rule(rule) for rule in engine.rules], engine.facts(), engine.shown())
    return kept + (hold.is_open(), hold.kept, [word for word in hold.marks], len(hold.steps))


class HoldCase(unittest.TestCase):
    def refused(self, error, hold, deed, *arguments):
        """Hold that a deed is refused with just that error and changes nothing."""
        before = all_of(hold)
        with self.assertRaises(error) as caught:
            deed(*arguments)
        self.assertIs(type(caught.exception), error)
        self.assertEqual(all_of(hold), before)

    def as_new(self, engine):
        self.assertEqual(engine.shown(), oracle.shown(oracle.model_of(engine.rules, engine.facts())))


class BegunTest(HoldCase):
    def test_begun_and_open(self):
        hold = hold_of()
        self.assertIs(hold.is_open(), False)
        self.assertIs(hold.begin(), None)
        self.assertIs(hold.is_open(), True)
        self.assertIs(hold.must_be_open(), None)
        hold.throw_away()
        self.assertIs(hold.is_open(), False)
        hold.begin()
        hold.keep()
        self.assertIs(hold.is_open(), False)

    def test_none_in_another(self):
        hold = hold_of()
        hold.begin()
        hold.put("edge", (3, 4))
        hold.mark("here")
        self.refused(BadDeed, hold, hold.begin)
        self.refused(BadDeed, hold, at_once, hold, [("edge", (4, 5), True)])

    def test_nothing_without_one(self):
        hold = hold_of()
        for round_of in range(3):
            for deed, arguments in ((hold.put, ("edge", (3, 4))), (hold.take, ("edge", (1, 2))),
                                    (hold.with_rules, ((),)), (hold.mark, ("here",)), (hold.go_back, ("here",)),
                                    (hold.throw_away, ()), (hold.keep, ()), (hold.based, ()), (hold.undo, (0, ())),
                                    (hold.must_be_open, ()), (hold.put, ("edge", (1, 2))), (hold.take, ("x", ())),
                                    (hold.put, ("not", (10 ** 18,)))):
                self.refused(BadDeed, hold, deed, *arguments)
            hold.begin()
            hold.mark("here")
            if round_of == 0:
                hold.throw_away()
            else:
                hold.keep()

    def test_kept_counts_the_kept(self):
        hold = hold_of(bounds=("! :- flag(1).",))
        self.assertEqual(hold.kept, 0)
        hold.begin()
        self.assertEqual(hold.kept, 0)
        hold.keep()
        hold.begin()
        hold.put("flag", (2,))
        hold.throw_away()
        self.assertEqual(hold.kept, 1)
        hold.begin()
        hold.put("flag", (1,))
        with self.assertRaises(Broken):
            hold.keep()
        at_once(hold, [("flag", (3,), True)])
        self.assertEqual(hold.kept, 2)


class DeedsTest(HoldCase):
    def test_what_came_and_went(self):
        hold = hold_of()
        hold.begin()
        self.assertEqual(hold.put("edge", (3, 4)).shown(), (
            ("edge", ((3, 4),), ()), ("path", ((1, 4), (2, 4), (3, 4)), ())))
        self.assertEqual(hold.take("edge", (1, 2)).shown(), (
            ("edge", (), ((1, 2),)), ("path", (), ((1, 2), (1, 3), (1, 4)))))
        self.assertEqual(hold.with_rules(oracle.rules_of("path(X, Y) :- edge(X, Y).")).shown(), (
            ("path", (), ((2, 4),)),))
        self.assertEqual(hold.based().shown(), (("edge", ((3, 4),), ((1, 2),)),))
        self.as_new(hold.engine)

    def test_what_engines_refuse(self):
        hold = hold_of()
        hold.begin()
        hold.put("edge", (3, 4))
        for error, deed, arguments in (
                (NoSuch, hold.put, ("edge", (3, 4))), (NoSuch, hold.take, ("edge", (9, 9))),
                (NoSuch, hold.take, ("path", (1, 2))), (BadKind, hold.put, ("edge", (1,))),
                (BadKind, hold.put, ("flag", ())), (BadRule, hold.put, ("not", (1,))),
                (BadSize, hold.put, ("flag", (10 ** 18,))), (NoSuch, hold.go_back, ("nowhere",)),
                (BadRule, hold.with_rules, (oracle.rules_of("p(1)."),)),
                (BadRule, hold.with_rules, (oracle.rules_of("p(X) :- not flag(X)."),)),
                (BadKind, hold.with_rules, (oracle.rules_of("p(X) :- edge(X)."),)),
                (BadLayer, hold.with_rules, (oracle.rules_of("p(X) :- flag(X), not p(X)."),))):
            self.refused(error, hold, deed, *arguments)
        self.assertEqual(hold.based().shown(), (("edge", ((3, 4),), ()),))

    def test_based_cancels(self):
        hold = hold_of()
        hold.begin()
        self.assertTrue(hold.based().is_bare())
        hold.put("edge", (3, 4))
        hold.take("edge", (1, 2))
        hold.put("edge", (1, 2))
        self.assertEqual(hold.based().shown(), (("edge", ((3, 4),), ()),))
        hold.take("edge", (3, 4))
        self.assertTrue(hold.based().is_bare())


class ThrownTest(HoldCase):
    def test_facts_alone(self):
        hold = hold_of()
        before = all_of(hold)
        hold.begin()
        hold.put("edge", (3, 1))
        hold.take("edge", (1, 2))
        hold.put("new", ())
        hold.take("flag", ("w",))
        hold.put("flag", (1, 2))
        told = hold.throw_away()
        self.assertEqual(all_of(hold), before)
        self.assertEqual(told.shown(), (
            ("edge", ((1, 2),), ((3, 1),)), ("flag", (("w",),), ((1, 2),)), ("new", (), ((),)),
            ("path", ((1, 2), (1, 3)), ((2, 1), (3, 1)))))

    def test_rules_and_facts(self):
        hold = hold_of()
        before = all_of(hold)
        hold.begin()
        hold.take("flag", ("w",))
        hold.with_rules(oracle.rules_of("path(X, count(Y)) :- edge(X, Y). flag(X, Y) :- path(X, Y), not edge(X, Y)."))
        hold.put("flag", (1, "v"))
        hold.put("edge", (1, 1))
        hold.with_rules(())
        hold.put("path", ())
        hold.take("edge", (2, 3))
        self.as_new(hold.engine)
        state = hold.engine.store.twin()
        told = hold.throw_away()
        self.assertEqual(all_of(hold), before)
        self.assertEqual(told.shown(), apart(state, hold.engine.store).shown())
        self.as_new(hold.engine)
        self.assertEqual(hold.engine.put("flag", (3,)).shown(), (("flag", ((3,),), ()),))

    def test_nothing_done(self):
        hold = hold_of()
        before = all_of(hold)
        hold.begin()
        self.assertTrue(hold.throw_away().is_bare())
        self.assertEqual(all_of(hold), before)

    def test_undo(self):
        hold = hold_of()
        hold.begin()
        hold.put("edge", (3, 4))
        state = all_of(hold)
        hold.mark("here")
        rules = hold.engine.rules
        hold.take("edge", (1, 2))
        hold.with_rules(())
        hold.put("edge", (5, 6))
        hold.mark("late")
        self.assertIs(hold.undo(1, rules), None)
        self.assertEqual(all_of(hold)[:3], state[:3])
        self.assertEqual(hold.based().shown(), (("edge", ((3, 4),), ()),))
        self.refused(NoSuch, hold, hold.go_back, "late")
        self.assertTrue(hold.go_back("here").is_bare())


class MarksTest(HoldCase):
    def test_gone_back_to_it_stays_and_later_ones_go(self):
        hold = hold_of()
        hold.begin()
        hold.mark("one")
        hold.put("edge", (3, 4))
        hold.mark("two")
        state = all_of(hold)[:3]
        hold.take("edge", (1, 2))
        hold.mark("three")
        hold.with_rules(())
        self.assertEqual(hold.go_back("two").shown(), (
            ("edge", ((1, 2),), ()), ("path", ((1, 2), (1, 3), (1, 4), (2, 3), (2, 4), (3, 4)), ())))
        self.assertEqual(all_of(hold)[:3], state)
        self.refused(NoSuch, hold, hold.go_back, "three")
        hold.put("edge", (9, 9))
        self.assertEqual(hold.go_back("two").shown(), (("edge", (), ((9, 9),)), ("path", (), ((9, 9),))))
        self.assertTrue(hold.go_back("two").is_bare())
        hold.go_back("one")
        self.refused(NoSuch, hold, hold.go_back, "two")
        self.assertEqual(hold.engine.facts(), oracle.facts_of(FACTS))
        self.assertIs(hold.is_open(), True)

    def test_one_set_again_is_the_newest(self):
        hold = hold_of()
        hold.begin()
        hold.mark("one")
        hold.put("flag", (1,))
        hold.mark("two")
        hold.put("flag", (2,))
        self.assertIs(hold.mark("one"), None)
        hold.put("flag", (3,))
        hold.go_back("one")
        self.assertEqual([row for name, row in hold.engine.facts() if name == "flag"], [(1,), (2,), ("w",)])
        hold.go_back("two")
        self.assertEqual([row for name, row in hold.engine.facts() if name == "flag"], [(1,), ("w",)])
        self.refused(NoSuch, hold, hold.go_back, "one")

    def test_marks_go_with_the_transaction(self):
        for end in ("keep", "throw"):
            hold = hold_of()
            hold.begin()
            hold.mark("one")
            hold.put("flag", (1,))
            hold.keep() if end == "keep" else hold.throw_away()
            hold.begin()
            self.refused(NoSuch, hold, hold.go_back, "one")

    def test_rules_between_marks(self):
        hold = hold_of("p(X) :- flag(X).", "flag(1).")
        hold.begin()
        hold.with_rules(oracle.rules_of("q(X) :- flag(X)."))
        hold.mark("here")
        hold.take("flag", (1,))
        hold.with_rules(oracle.rules_of("r(X, Y) :- flag(X, Y)."))
        hold.put("flag", (1, 2))
        self.assertEqual(hold.go_back("here").shown(), (
            ("flag", ((1,),), ((1, 2),)), ("q", ((1,),), ()), ("r", (), ((1, 2),))))
        self.assertEqual([told_rule(rule) for rule in hold.engine.rules], ["q(X) :- flag(X)."])
        changes, _ = hold.keep()
        self.assertEqual(changes.shown(), (("p", (), ((1,),)), ("q", ((1,),), ())))

    def test_any_word(self):
        hold = hold_of()
        hold.begin()
        for word in ("", "A b", "'"):
            hold.mark(word)
        hold.put("flag", (1,))
        hold.go_back("A b")
        self.refused(NoSuch, hold, hold.go_back, "'")
        hold.go_back("")


class KeptTest(HoldCase):
    def test_what_came_and_went_in_all_and_the_news(self):
        hold = hold_of(watches=(("to", "?- path(X, 4)."), ("all", "?- edge(X, Y)."), ("flags", "?- flag(X).")))
        hold.begin()
        hold.put("edge", (3, 4))
        hold.take("edge", (1, 2))
        hold.put("flag", (5,))
        hold.take("flag", (5,))
        hold.put("edge", (2, 4))
        kept = hold.keep()
        self.assertIs(type(kept), tuple)
        changes, news = kept
        self.assertEqual(changes.shown(), (("edge", ((2, 4), (3, 4)), ((1, 2),)),
                                           ("path", ((2, 4), (3, 4)), ((1, 2), (1, 3)))))
        self.assertEqual(news, (("all", ((2, 4), (3, 4)), ((1, 2),)), ("to", ((2,), (3,)), ())))
        self.assertEqual(hold.engine.facts(), (
            ("edge", (2, 3)), ("edge", (2, 4)), ("edge", (3, 4)), ("flag", ("w",))))

    def test_nothing_in_all(self):
        hold = hold_of(watches=(("to", "?- path(X, 4)."),))
        hold.begin()
        hold.put("edge", (3, 4))
        hold.take("edge", (3, 4))
        changes, news = hold.keep()
        self.assertEqual((changes.shown(), news), ((), ()))

    def test_what_was_thrown_away_is_not_told_later(self):
        hold = hold_of(watches=(("to", "?- path(X, 4)."),))
        hold.begin()
        hold.put("edge", (3, 4))
        hold.throw_away()
        hold.begin()
        hold.put("edge", (2, 4))
        changes, news = hold.keep()
        self.assertEqual(changes.shown(), (("edge", ((2, 4),), ()), ("path", ((1, 4), (2, 4)), ())))
        self.assertEqual(news, (("to", ((1,), (2,)), ()),))

    def test_other_rules(self):
        hold = hold_of(watches=(("to", "?- path(1, X)."),))
        hold.begin()
        hold.with_rules(oracle.rules_of("path(X, Y) :- edge(X, Y)."))
        hold.put("edge", (1, 9))
        changes, news = hold.keep()
        self.assertEqual(changes.shown(), (("edge", ((1, 9),), ()), ("path", ((1, 9),), ((1, 3),))))
        self.assertEqual(news, (("to", ((9,),), ((3,),)),))

    def test_one_that_breaks_a_bound_is_thrown_away_whole(self):
        hold = hold_of(bounds=("! :- path(X, X).", "! :- flag(1)."), watches=(("to", "?- path(1, X)."),))
        before = all_of(hold)
        hold.begin()
        hold.put("flag", (2,))
        hold.mark("here")
        hold.put("edge", (3, 1))
        with self.assertRaises(Broken) as caught:
            hold.keep()
        self.assertIs(type(caught.exception), Broken)
        self.assertEqual(all_of(hold), before)
        self.refused(BadDeed, hold, hold.keep)
        hold.begin()
        self.refused(NoSuch, hold, hold.go_back, "here")
        hold.put("flag", (2,))
        changes, news = hold.keep()
        self.assertEqual((changes.shown(), news), ((("flag", ((2,),), ()),), ()))

    def test_rules_that_break_a_bound(self):
        hold = hold_of(bounds=("! :- path(3, X).",))
        before = all_of(hold)
        hold.begin()
        hold.with_rules(oracle.rules_of("path(X, Y) :- edge(Y, X)."))
        with self.assertRaises(Broken):
            hold.keep()
        self.assertEqual(all_of(hold), before)
        self.as_new(hold.engine)

    def test_a_bound_may_be_broken_on_the_way(self):
        hold = hold_of(bounds=("! :- path(X, X).",))
        hold.begin()
        hold.put("edge", (3, 1))
        hold.take("edge", (1, 2))
        changes, _ = hold.keep()
        self.assertEqual(changes.shown(), (("edge", ((3, 1),), ((1, 2),)), ("path", ((2, 1), (3, 1)), ((1, 2), (1, 3)))))

    def test_a_lifted_bound_breaks_nothing(self):
        hold = hold_of(bounds=("! :- flag(1).",))
        hold.bounds.lift(0)
        hold.begin()
        hold.put("flag", (1,))
        hold.keep()
        self.assertTrue(hold.engine.has("flag", (1,)))


class AtOnceTest(HoldCase):
    def test_kept_whole(self):
        hold = hold_of(watches=(("flags", "?- flag(X)."),))
        changes, news = at_once(hold, [("edge", (1, 2), False), ("flag", (1,), True), ["edge", (1, 2), True],
                                       ("flag", ("w",), False)])
        self.assertEqual(changes.shown(), (("flag", ((1,),), (("w",),)),))
        self.assertEqual(news, (("flags", ((1,),), (("w",),)),))
        self.assertEqual((hold.kept, hold.is_open()), (1, False))
        self.assertEqual([told.shown() if told != () else () for told in at_once(hold, ())], [(), ()])

    def test_thrown_away_whole_where_a_step_is_refused(self):
        hold = hold_of()
        for steps in ([("flag", (1,), True), ("flag", (1,), True)], [("flag", (1,), True), ("flag", (2,), False)],
                      [("flag", ("w",), False), ("edge", (1,), True), ("flag", (2,), True)],
                      [("flag", (1,), True), ("not", (1,), True)], [("flag", (10 ** 18,), True)],
                      [("path", (1, 2), False)]):
            before = all_of(hold)
            with self.assertRaises(BadDeed) as caught:
                at_once(hold, steps)
            self.assertIs(type(caught.exception), BadDeed)
            self.assertEqual(all_of(hold), before)
        at_once(hold, [("flag", (1,), True)])

    def test_thrown_away_whole_where_a_bound_breaks(self):
        hold = hold_of(bounds=("! :- path(X, X).",))
        before = all_of(hold)
        with self.assertRaises(Broken):
            at_once(hold, [("flag", (1,), True), ("edge", (3, 3), True)])
        self.assertEqual(all_of(hold), before)

    def test_done(self):
        hold = hold_of()
        hold.begin()
        self.assertIs(done(hold, "flag", (1,), True), True)
        self.assertIs(done(hold, "flag", (1,), True), False)
        self.assertIs(done(hold, "flag", ("w",), False), True)
        self.assertIs(done(hold, "flag", (1, 2), True), False)
        self.assertIs(done(hold, "flag", ("w",), False), False)
        self.assertEqual(hold.based().shown(), (("flag", ((1,),), (("w",),)),))


class DrawnTest(HoldCase):
    """Drawn transactions over drawn rules, held against states that were noted on the way."""

    def states_after(self, hold):
        return [told_rule(rule) for rule in hold.engine.rules], hold.engine.facts(), hold.engine.shown()

    def one_deed(self, chosen, hold, marks):
        """Do a drawn deed; return what came and went by it, None for a mark."""
        word = chosen.choice(("fact", "fact", "fact", "rules", "mark", "back"))
        if word == "mark":
            name = chosen.choice("abc")
            hold.mark(name)
            marks.pop(name, None)
            marks[name] = self.states_after(hold)
            return None
        if word == "back" and marks:
            name = chosen.choice(list(marks))
            told = hold.go_back(name)
            self.assertEqual(self.states_after(hold), marks[name])
            for later in list(marks)[list(marks).index(name) + 1:]:
                del marks[later]
                self.refused(NoSuch, hold, hold.go_back, later)
            return told
        if word == "rules":
            return hold.with_rules(oracle.drawn_rules(chosen, chosen.randint(0, 4)))
        name, row = oracle.drawn_fact(chosen)
        return hold.take(name, row) if hold.engine.base.has(name, row) else hold.put(name, row)

    def test_runs(self):
        broken = kept = thrown = 0
        for seed in range(80):
            chosen = random.Random(seed)
            hold = Hold(Engine(oracle.drawn_rules(chosen, 4), [oracle.drawn_fact(chosen) for _ in range(6)]),
                        Bounds(), Watches())
            for rule in [oracle.drawn_rule(chosen) for _ in range(2)]:
                try:
                    hold.bounds.set_bound(rule.body, hold.engine)
                except Broken:
                    continue
            for _ in range(4):
                before, store = self.states_after(hold), hold.engine.store.twin()
                marks = {}
                hold.begin()
                for _ in range(chosen.randint(0, 7)):
                    ahead = hold.engine.store.twin()
                    told = self.one_deed(chosen, hold, marks)
                    if told is not None:
                        self.assertEqual(told.shown(), apart(ahead, hold.engine.store).shown())
                    self.as_new(hold.engine)
                after, ahead = self.states_after(hold), hold.engine.store.twin()
                if chosen.random() < 0.3:
                    thrown += 1
                    self.assertEqual(hold.throw_away().shown(), apart(ahead, store).shown())
                    self.assertEqual(self.states_after(hold), before)
                    continue
                breaks = hold.bounds.broken(hold.engine) != ()
                try:
                    changes, _ = hold.keep()
                except Broken:
                    broken += 1
                    self.assertTrue(breaks)
                    self.assertEqual(self.states_after(hold), before)
                    continue
                kept += 1
                self.assertFalse(breaks)
                self.assertEqual(changes.shown(), apart(store, hold.engine.store).shown())
                self.assertEqual(self.states_after(hold), after)
        self.assertTrue(broken > 20 and kept > 50 and thrown > 30, (broken, kept, thrown))

    def test_steps_at_once(self):
        refused = 0
        for seed in range(60):
            chosen = random.Random(500 + seed)
            hold = Hold(Engine(oracle.drawn_rules(chosen, 3), [oracle.drawn_fact(chosen) for _ in range(6)]),
                        Bounds(), Watches())
            steps = [oracle.drawn_fact(chosen) + (chosen.random() < 0.6,) for _ in range(3)]
            before = all_of(hold)
            try:
                at_once(hold, steps)
            except DeduceFault as fault:
                refused += 1
                self.assertIs(type(fault), BadDeed)
                self.assertEqual(all_of(hold), before)
            else:
                other = Engine(hold.engine.rules, before[1])
                other.take_in(many_changes(steps))
                self.assertEqual(hold.engine.shown(), other.shown())
            self.as_new(hold.engine)
        self.assertTrue(10 < refused < 55, refused)


if __name__ == "__main__":
    unittest.main()
