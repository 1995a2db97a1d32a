"""Watches, [23] (with [34]): what a question's rows gained and lost since it told last."""

import random
import unittest

import oracle
from deducehall.engines import Engine, many_changes
from deducehall.errors import BadRule, BadSign, NoSuch
from deducehall.queries import asked
from deducehall.stores import Changes
from deducehall.watches import Watch, Watches, gathered

RULES = "path(X, Y) :- edge(X, Y). path(X, Z) :- edge(X, Y), path(Y, Z)."


def engine_of(rules=RULES, facts="edge(1, 2). edge(2, 3). flag(w)."):
    return Engine(oracle.rules_of(rules), oracle.facts_of(facts))


class WatchTest(unittest.TestCase):
    def test_rows_and_news(self):
        engine = engine_of()
        watch = Watch("?- path(1, X).", engine)
        self.assertEqual(watch.rows(), ((2,), (3,)))
        self.assertEqual(watch.news(engine), ((), ()))
        engine.put("edge", (3, 4))
        engine.take("edge", (2, 3))
        engine.put("edge", (1, "w"))
        engine.put("edge", (1, -1))
        self.assertEqual(watch.rows(), ((2,), (3,)))
        self.assertEqual(watch.news(engine), (((-1,), ("w",)), ((3,),)))
        self.assertEqual(watch.rows(), ((-1,), (2,), ("w",)))
        self.assertEqual(watch.news(engine), ((), ()))

    def test_what_came_and_went_since_is_no_news(self):
        engine = engine_of()
        watch = Watch("?- path(X, 3).", engine)
        engine.take("edge", (2, 3))
        engine.put("edge", (2, 3))
        self.assertEqual(watch.news(engine), ((), ()))

    def test_a_question_of_no_names(self):
        engine = engine_of()
        watch = Watch("?- path(3, _).", engine)
        self.assertEqual(watch.rows(), ())
        engine.put("edge", (3, 9))
        self.assertEqual(watch.news(engine), (((),), ()))
        engine.take("edge", (3, 9))
        self.assertEqual(watch.news(engine), ((), ((),)))

    def test_texts_that_are_no_question(self):
        engine = engine_of()
        for error, text in ((BadSign, "?- path(1, X"), (BadSign, "?- path(1, X)"), (BadRule, "path(1, 2)."),
                            (BadRule, "! :- path(X, X)."), (BadRule, ""), (BadRule, "?- X < 2."),
                            (BadRule, "?- flag(X). ?- flag(Y).")):
            with self.assertRaises(error) as caught:
                Watch(text, engine)
            self.assertIs(type(caught.exception), error)


class WatchesTest(unittest.TestCase):
    def setUp(self):
        self.engine = engine_of()
        self.watches = Watches()
        for word, text in (("to", "?- path(1, X)."), ("flags", "?- flag(X)."), ("none", "?- edge(X, X), not flag(X).")):
            self.watches.set_watch(word, text, self.engine)

    def take_in(self, came="", went=""):
        steps = [(name, row, False) for name, row in oracle.facts_of(went)]
        return self.engine.take_in(many_changes(steps + [(name, row, True) for name, row in oracle.facts_of(came)]))

    def test_held(self):
        self.assertEqual(sorted(self.watches.held), ["flags", "none", "to"])
        self.assertEqual(self.watches.held["to"].rows(), ((2,), (3,)))
        self.assertEqual(Watches().held, {})

    def test_set_tells_the_rows_now(self):
        self.assertEqual(self.watches.set_watch("from", "?- path(X, 3).", self.engine), ((1,), (2,)))
        self.assertEqual(self.watches.set_watch("a b'", "?- flag(5).", self.engine), ())

    def test_one_in_place_of_one_of_that_word(self):
        told = self.take_in("edge(3, 4).")
        self.assertEqual(self.watches.set_watch("to", "?- path(X, 4).", self.engine), ((1,), (2,), (3,)))
        self.assertEqual(sorted(self.watches.held), ["flags", "none", "to"])
        self.assertEqual(self.watches.tell(self.engine, told), ())

    def test_a_refused_one_leaves_what_was_there(self):
        before = dict(self.watches.held)
        for error, text in ((BadSign, "?- "), (BadRule, "flag(w)."), (BadRule, "?- not flag(X), X < 1.")):
            for word in ("to", "new"):
                with self.assertRaises(error) as caught:
                    self.watches.set_watch(word, text, self.engine)
                self.assertIs(type(caught.exception), error)
        self.assertEqual(self.watches.held, before)

    def test_told_in_order_of_the_words_where_there_is_news(self):
        self.watches.set_watch("Z", "?- path(X, 7).", self.engine)
        self.watches.set_watch("9", "?- path(X, 8).", self.engine)
        told = self.take_in("edge(3, 7). edge(5, 5). edge(3, 1).", "edge(1, 2). flag(w).")
        self.assertEqual(self.watches.tell(self.engine, told), (
            ("Z", ((2,), (3,)), ()), ("flags", (), (("w",),)), ("none", ((5,),), ()), ("to", (), ((2,), (3,)))))
        self.assertEqual(self.watches.tell(self.engine, told), ())
        self.assertEqual(self.watches.tell_all(self.engine), ())

    def test_those_that_do_not_ask_a_changed_name_do_not_tell(self):
        told = self.take_in("edge(3, 4).")
        self.assertEqual(told.names(), ("edge", "path"))
        only_edge = many_changes([("edge", (3, 4), True)])
        self.assertEqual(self.watches.tell(self.engine, only_edge), ())
        self.assertEqual(self.watches.tell(self.engine, many_changes([("other", (1,), True)])), ())
        self.assertEqual(self.watches.tell(self.engine, Changes()), ())
        self.assertEqual(self.watches.tell(self.engine, told), (("to", ((4,),), ()),))

    def test_news_that_was_not_told_is_told_later(self):
        self.take_in("edge(3, 4).")
        told = self.take_in("edge(4, 5).", "edge(2, 3).")
        self.assertEqual(self.watches.tell(self.engine, told), (("to", (), ((3,),)),))
        self.take_in("edge(1, 8). flag(5).")
        self.assertEqual(self.watches.tell(self.engine, many_changes([("flag", (9,), False)])), (("flags", ((5,),), ()),))
        self.assertEqual(self.watches.tell_all(self.engine), (("to", ((8,),), ()),))

    def test_one_that_asks_against_a_changed_name(self):
        self.watches.set_watch("bare", "?- edge(X, Y), not flag(Y).", self.engine)
        told = self.take_in("flag(3).")
        self.assertEqual(self.watches.tell(self.engine, told), (("bare", (), ((2, 3),)), ("flags", ((3,),), ())))

    def test_a_lifted_one_tells_no_more(self):
        self.assertIs(self.watches.lift("to"), None)
        self.assertEqual(sorted(self.watches.held), ["flags", "none"])
        told = self.take_in("edge(3, 4).")
        self.assertEqual((self.watches.tell(self.engine, told), self.watches.tell_all(self.engine)), ((), ()))
        for word in ("to", "", "other"):
            with self.assertRaises(NoSuch) as caught:
                self.watches.lift(word)
            self.assertIs(type(caught.exception), NoSuch)
        self.assertEqual(sorted(self.watches.held), ["flags", "none"])


class GatheredTest(unittest.TestCase):
    def test_telling_by_telling(self):
        rows = [(2,), ("w",)]
        tellings = [(((1,), (3,)), ((2,),)), ((), ()), (((2,),), (("w",), (1,)))]
        self.assertEqual(gathered(rows, tellings), ((2,), (3,)))
        self.assertEqual(rows, [(2,), ("w",)])
        self.assertEqual(gathered((("w",), (2,), (-1,)), ()), ((-1,), (2,), ("w",)))
        self.assertEqual(gathered((), [(((),), ())]), ((),))
        self.assertEqual(gathered(rows, [("word", ((1,),), ((2,),))]), ((1,), ("w",)))

    def test_what_does_not_fit(self):
        for rows, tellings in (([(1,)], [((), ((2,),))]), ([(1,)], [(((1,),), ())]),
                               ([], [(((1,),), ()), (((1,),), ())]), ([(1,)], [((), ((1,),)), ((), ((1,),))])):
            with self.assertRaises(NoSuch) as caught:
                gathered(rows, tellings)
            self.assertIs(type(caught.exception), NoSuch)

    def test_a_row_that_went_may_come_in_the_same_telling(self):
        self.assertEqual(gathered([(1,)], [(((1,),), ((1,),))]), ((1,),))


class DrawnTest(unittest.TestCase):
    def test_tellings_make_up_the_rows(self):
        many = 0
        for seed in range(60):
            chosen = random.Random(seed)
            engine = Engine(oracle.drawn_rules(chosen, 4), [oracle.drawn_fact(chosen) for _ in range(6)])
            texts = {"one": "?- p(X), not s(X).", "two": "?- q(X, Y), b(Y, Z).", "three": "?- r(X, _), X != x.",
                     "four": "?- z.", "five": "?- a(X), Y := X + 1."}
            watches = Watches()
            first = {word: watches.set_watch(word, text, engine) for word, text in texts.items()}
            tellings = {word: [] for word in texts}
            for _ in range(6):
                before = {word: asked(engine, text)[1] for word, text in texts.items()}
                changes = engine.take_in(many_changes(oracle.drawn_steps(chosen, 3, engine.base.has)))
                news = watches.tell(engine, changes)
                self.assertEqual([word for word, _, _ in news],
                                 sorted(word for word in texts if asked(engine, texts[word])[1] != before[word]))
                for word, came, went in news:
                    tellings[word].append((came, went))
                    many += 1
            for word, text in texts.items():
                self.assertEqual(gathered(first[word], tellings[word]), asked(engine, text)[1])
        self.assertGreater(many, 100)


if __name__ == "__main__":
    unittest.main()
