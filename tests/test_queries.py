"""Queries, [20] (with [8] and [13]): questions, their names and answers, groups, bindings."""

import random
import unittest

import oracle
from deducehall.engines import Engine
from deducehall.errors import BadRule, BadSign, BadSize, DeduceFault
from deducehall.queries import (
    Question, asked, bindings, bound_of, counted, grouped, question, same_answers,
)
from deducehall.readers import read
from deducehall.rules import pos
from deducehall.terms import bound_key, val, var

RULES = "path(X, Y) :- edge(X, Y). path(X, Z) :- edge(X, Y), path(Y, Z)."
FACTS = "edge(2, 3). edge(1, 2). edge(3, w). node(1). node(2). node(w). flag."


def engine_of(rules=RULES, facts=FACTS):
    return Engine(oracle.rules_of(rules), oracle.facts_of(facts))


class NamesTest(unittest.TestCase):
    def test_told_of(self):
        for text, names in (("?- path(X, Y).", ("X", "Y")), ("?- path(Y, X), node(Z), X < Z.", ("Y", "X", "Z")),
                            ("?- path(X, _).", ("X",)), ("?- path(_X, Y), node(_X).", ("Y",)), ("?- flag.", ()),
                            ("?- not path(X, Y).", ()), ("?- not edge(X, Z), node(Y), node(X).", ("X", "Y")),
                            ("?- node(X), Z := X + 1.", ("X", "Z")), ("?- Z := 1 + 1, not node(Z).", ("Z",)),
                            ("?- 1 < 2.", ()), ("?- node(_), not path(_, _).", ())):
            self.assertEqual(question(text).told_of, names, text)

    def test_the_rule_has_the_body(self):
        body = read("?- path(X, Y), not node(Y), X < 9.")[0].body
        found = Question(body)
        self.assertEqual([part.shown() for part in found.rule.body], [part.shown() for part in body])
        self.assertEqual(Question(list(body)).told_of, ("X", "Y"))

    def test_asks(self):
        self.assertEqual(question("?- node(X), not edge(X, Y), X < 3, node(Z), apart(X), not node(5).").asks(),
                         ("node", "edge", "apart"))
        self.assertEqual(question("?- 1 < 2.").asks(), ())


class UnsafeTest(unittest.TestCase):
    def test_refused(self):
        for text in ("?- X < 1.", "?- node(X), Y < X.", "?- not node(X), not flag(X).", "?- X := Y + 1.",
                     "?- node(X), X := 1 + 1.", "?- node(X), not edge(X, Y), Y < 3.", "?- X := X + 1."):
            with self.assertRaises(BadRule, msg=text):
                question(text)
            with self.assertRaises(BadRule):
                bound_of("! :- " + text[3:])
        with self.assertRaises(BadRule):
            Question([pos("not", [var("X")])])
        with self.assertRaises(BadSize):
            Question([pos("a", [val(10 ** 18)])])

    def test_other_clauses_or_several(self):
        for text in ("", "p(X) :- q(X).", "p(1).", "! :- node(X).", "?- node(X). ?- node(Y).", "?- node(X). p(1)."):
            with self.assertRaises(BadRule, msg=text):
                question(text)
            for deed in (asked, counted, bindings):
                with self.assertRaises(BadRule):
                    deed(engine_of(), text)
            with self.assertRaises(BadRule):
                grouped(engine_of(), text, 1)
        for text in ("", "?- node(X).", "p(1).", "! :- node(X). ! :- node(Y)."):
            with self.assertRaises(BadRule, msg=text):
                bound_of(text)
        for text in ("?- node(X)", "?- ;", "?- 99999999999999999990 < 1."):
            with self.assertRaises(BadSign):
                question(text)

    def test_bound_of(self):
        found = bound_of("! :- edge(X, Y), not node(Y).")
        self.assertIsInstance(found, Question)
        self.assertEqual((found.told_of, found.answer(engine_of())), (("X", "Y"), ((2, 3),)))


class AnswerTest(unittest.TestCase):
    def test_rows_in_order_each_once(self):
        engine = engine_of()
        self.assertEqual(question("?- path(X, Y).").answer(engine),
                         ((1, 2), (1, 3), (1, "w"), (2, 3), (2, "w"), (3, "w")))
        self.assertEqual(question("?- path(_, Y).").answer(engine), ((2,), (3,), ("w",)))
        self.assertEqual(question("?- path(_X, _Y), node(Z), Z != 2.").answer(engine), ((1,), ("w",)))
        self.assertEqual(question("?- node(X), not edge(X, Y).").answer(engine), (("w",),))
        self.assertEqual(question("?- path(X, X).").answer(engine), ())
        self.assertEqual(question("?- edge(Y, Z), W := Y * 10, W < 30.").answer(engine), ((1, 2, 10), (2, 3, 20)))

    def test_bare_answers(self):
        engine = engine_of()
        for text, holds in (("?- flag.", True), ("?- not flag.", False), ("?- path(_, w).", True),
                            ("?- path(w, _).", False), ("?- edge(1, 2), 1 < 2.", True), ("?- not path(w, X).", True)):
            found = question(text)
            self.assertEqual(found.answer(engine), ((),) if holds else ())
            self.assertIs(found.holds(engine), holds)
            self.assertEqual(found.first(engine), () if holds else None)

    def test_first(self):
        engine = engine_of()
        self.assertEqual(question("?- path(Y, X), Y != 1.").first(engine), (("Y", 2), ("X", 3)))
        self.assertEqual(question("?- node(X), X != 1, X != 2.").first(engine), (("X", "w"),))
        self.assertIs(question("?- path(X, 1).").first(engine), None)

    def test_all_bounds_and_bindings(self):
        engine = engine_of()
        found = question("?- edge(X, Y), not node(Y), node(_).").all_bounds(engine)
        self.assertEqual(sorted(found, key=bound_key), [{"X": 2, "Y": 3, "_1": 1}, {"X": 2, "Y": 3, "_1": 2},
                                                        {"X": 2, "Y": 3, "_1": "w"}])
        self.assertEqual(bindings(engine, "?- edge(Y, X)."),
                         [{"Y": 1, "X": 2}, {"Y": 2, "X": 3}, {"Y": 3, "X": "w"}])
        self.assertEqual(bindings(engine, "?- edge(X, Y), edge(Y, _)."),
                         [{"X": 1, "Y": 2, "_1": 3}, {"X": 2, "Y": 3, "_1": "w"}])
        self.assertEqual((bindings(engine, "?- flag."), bindings(engine, "?- not flag.")), ([{}], []))

    def test_names_that_nobody_knows(self):
        engine = engine_of()
        self.assertEqual(question("?- nobody(X).").answer(engine), ())
        self.assertEqual(question("?- node(X), not nobody(X, Y).").answer(engine), ((1,), (2,), ("w",)))
        self.assertIs(question("?- node(1, 2).").holds(engine), False)
        self.assertEqual(engine.shown(), engine_of().shown())

    def test_after_changes(self):
        engine = engine_of()
        found = question("?- path(1, X).")
        engine.take("edge", (2, 3))
        self.assertEqual(found.answer(engine), ((2,),))

    def test_some_questions(self):
        many = 0
        for seed in range(250):
            chosen = random.Random(seed)
            engine = Engine(oracle.drawn_rules(chosen, 3), [oracle.drawn_fact(chosen) for _ in range(8)])
            body = [oracle.drawn_part(chosen) for _ in range(chosen.randint(1, 3))]
            try:
                found = Question(body)
            except DeduceFault:
                continue
            many += 1
            model = {name: set(rows) for name, rows in engine.shown()}
            rows = {tuple(bound[name] for name in found.told_of) for bound in oracle.all_bounds(found.rule, model)}
            wanted = tuple(sorted(rows, key=oracle.row_key))
            self.assertEqual(found.answer(engine), wanted)
            self.assertIs(found.holds(engine), wanted != ())
            self.assertEqual(found.first(engine), tuple(zip(found.told_of, wanted[0])) if wanted else None)
        self.assertGreater(many, 60)


class TextsTest(unittest.TestCase):
    def test_asked_and_counted(self):
        engine = engine_of()
        self.assertEqual(asked(engine, "?- edge(Y, X), X != w."), (("Y", "X"), ((1, 2), (2, 3))))
        self.assertEqual(asked(engine, "?- flag."), ((), ((),)))
        self.assertEqual([counted(engine, text) for text in ("?- path(X, _).", "?- path(X, Y).", "?- flag.", "?- no.")],
                         [3, 6, 1, 0])

    def test_grouped(self):
        engine = engine_of()
        self.assertEqual(grouped(engine, "?- path(X, Y).", 1),
                         (((1,), ((2,), (3,), ("w",))), ((2,), ((3,), ("w",))), ((3,), (("w",),))))
        self.assertEqual(grouped(engine, "?- path(X, Y).", 0), (((), question("?- path(X, Y).").answer(engine)),))
        self.assertEqual(grouped(engine, "?- edge(X, Y), X < 3.", 2), (((1, 2), ((),)), ((2, 3), ((),))))
        self.assertEqual(grouped(engine, "?- no(X).", 1), ())

    def test_groups_by_more_names_than_there_are(self):
        engine = engine_of()
        self.assertEqual(grouped(engine, "?- node(X).", 5), (((1,), ((),)), ((2,), ((),)), (("w",), ((),))))
        self.assertEqual(grouped(engine, "?- flag.", 1), (((), ((),)),))

    def test_same_answers(self):
        engine = engine_of()
        for one, other, same in (("?- edge(X, Y).", "?- edge(A, B).", True), ("?- edge(X, Y).", "?- path(X, Y).", False),
                                 ("?- node(X), path(X, _).", "?- path(Z, 3).", True), ("?- flag.", "?- 1 < 2.", True),
                                 ("?- edge(X, Y).", "?- edge(_, Y), edge(X, Y).", False),
                                 ("?- node(X).", "?- path(X, _).", False), ("?- no(X).", "?- no(X, Y).", True)):
            self.assertIs(same_answers(question(one), question(other), engine), same, (one, other))


if __name__ == "__main__":
    unittest.main()
