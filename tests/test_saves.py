"""Saves, [26] (with [5], [18], [25] and [34]): engines told whole and read back, logs made shorter."""

import random
import unittest

import oracle
from deducehall.engines import Engine, many_changes
from deducehall.errors import BadStore
from deducehall.logs import Log, blocks_of, figure_of, replayed
from deducehall.readers import told_rule
from deducehall.saves import as_block, body_of, restored, same, saved, shortened, stages

RULES = "path(X, Y) :- edge(X, Y). many(X, count(Z)) :- path(X, Z), not far(X, _), Z != 'a b'. on :- edge(X, X)."
FACTS = "edge(b, c). edge(-3, 'it\\'s'). edge(1, 'a\\nb'). far('\\\\', 0). off. word('not'). word('#'). edge(1, 1)."


def engine_of(rules=RULES, facts=FACTS):
    return Engine(oracle.rules_of(rules), oracle.facts_of(facts))


def state_of(engine):
    return [told_rule(rule) for rule in engine.rules], engine.facts(), engine.shown()


def with_figure(body):
    return f"{body}# {figure_of(body)}\n"


class SavesCase(unittest.TestCase):
    def refused(self, deed, *arguments):
        with self.assertRaises(BadStore) as caught:
            deed(*arguments)
        self.assertIs(type(caught.exception), BadStore)


class SavedTest(SavesCase):
    def test_rules_in_order_then_facts_in_order_then_the_figure(self):
        body = ("path(X, Y) :- edge(X, Y).\nmany(X, count(Z)) :- path(X, Z), not far(X, _), Z != 'a b'.\n"
                "on :- edge(X, X).\nedge(-3, 'it\\'s').\nedge(1, 1).\nedge(1, 'a\\nb').\nedge(b, c).\nfar('\\\\', 0).\n"
                "off.\nword('#').\nword('not').\n")
        self.assertEqual(saved(engine_of()), with_figure(body))
        self.assertEqual(body_of(saved(engine_of())), body)

    def test_rules_stay_in_their_order(self):
        text = saved(engine_of("b(X) :- c(X). a(X) :- b(X). a(Y) :- c(Y). b(Z) :- c(Z).", ""))
        self.assertEqual(body_of(text), "b(X) :- c(X).\na(X) :- b(X).\na(Y) :- c(Y).\n")

    def test_nothing(self):
        self.assertEqual(saved(Engine()), "# 0\n")
        self.assertEqual(body_of("# 0\n"), "")
        self.assertEqual(state_of(restored("# 0\n")), ([], (), ()))

    def test_saving_changes_nothing(self):
        engine = engine_of()
        before = state_of(engine)
        saved(engine)
        self.assertEqual(state_of(engine), before)


class RestoredTest(SavesCase):
    def test_the_same_rules_facts_and_rows(self):
        engine = engine_of()
        other = restored(saved(engine))
        self.assertEqual(state_of(other), state_of(engine))
        self.assertEqual(saved(other), saved(engine))
        self.assertIs(same(engine, other), True)
        self.assertEqual(other.put("edge", (1, 7)).shown(), engine.put("edge", (1, 7)).shown())
        self.assertEqual(other.shown(), oracle.shown(oracle.model_of(other.rules, other.facts())))

    def test_cut_anywhere(self):
        for engine in (engine_of(), engine_of("", FACTS), engine_of(RULES, ""), Engine()):
            text = saved(engine)
            for place in range(len(text)):
                self.refused(restored, text[:place])
                self.refused(body_of, text[:place])

    def test_each_sign_changed(self):
        for text in (saved(engine_of()), saved(Engine())):
            for place, sign in enumerate(text):
                for other in "01x\n #.9\u2028":
                    if other != sign:
                        self.refused(restored, text[:place] + other + text[place + 1:])

    def test_a_sign_left_out_or_put_in(self):
        text = saved(engine_of())
        for place in range(len(text)):
            self.refused(restored, text[:place] + text[place + 1:])
        for text in (text + "\n", text + " ", text + text, " " + text, "\n" + text, text + "# 0\n"):
            self.refused(restored, text)

    def test_rows_turned(self):
        rows = body_of(saved(engine_of())).split("\n")
        turned = "\n".join([rows[1], rows[0]] + rows[2:])
        self.refused(restored, f"{turned}# {figure_of(body_of(saved(engine_of())))}\n")

    def test_words_that_are_none_with_their_figure(self):
        for body in ("p(1", "p(X).\n", "p(X) :- q(Y).\n", "?- p(1).\n", "! :- p(1).\n", "p(X) :- p(X, X).\n", "p(1). p(1, 2).",
                     "p(X) :- q(X), not p(X).\n", "p(X) :- q(X).\nq(1, 2).\n", "not(1).\n", "p('a\n", "P.\n",
                     "p(1000000000000000000).\n", "p(1).\n?- p(X).\n"):
            self.refused(restored, with_figure(body))

    def test_body_of_a_text_without_a_right_figure(self):
        for text in ("", "\n", "p.\n", "# ", "# \n", "# x\n", "#0\n", "# 00\n", "# 0", " # 0\n", "# 0 \n", "# 1\n", "p.\n# 0\n"):
            self.refused(body_of, text)


class SameTest(unittest.TestCase):
    def test_one_base_one_model_and_rules_written_alike(self):
        one = engine_of("p(X) :- q(X).", "q(1).")
        self.assertIs(same(one, engine_of("p(X) :- q(X).", "q(1).")), True)
        for rules, facts in (("p(Y) :- q(Y).", "q(1)."), ("p(X) :- q(X).", "q(1). p(1)."), ("p(X) :- q(X).", "q('1')."),
                             ("", "q(1). p(1)."), ("p(X) :- q(X), X = X.", "q(1)."), ("p(X) :- q(X).", "")):
            self.assertIs(same(one, engine_of(rules, facts)), False)
            self.assertIs(same(engine_of(rules, facts), one), False)

    def test_rules_in_another_order(self):
        one, other = "p(X) :- q(X).", "r(X) :- q(X)."
        self.assertIs(same(engine_of(one + other, "q(1)."), engine_of(other + one, "q(1).")), False)


def drawn_log(chosen, many):
    engine = Engine()
    log = Log()
    states = [engine.shown()]
    for _ in range(many):
        rules = oracle.drawn_rules(chosen, 3) if chosen.random() < 0.4 else None
        changes = many_changes(oracle.drawn_steps(chosen, 4, engine.base.has))
        log.write(rules, changes)
        if rules is None:
            engine.take_in(changes)
        else:
            engine.renew(rules, changes)
        states.append(engine.shown())
    return log.text, engine, tuple(states)


class LogTest(SavesCase):
    def test_one_transaction_that_makes_an_engine(self):
        for engine in (engine_of(), engine_of("", FACTS), engine_of(RULES, ""), Engine()):
            log = as_block(engine)
            self.assertEqual((log.many, len(blocks_of(log.text))), (1, 1))
            self.assertIs(same(replayed(log.text), engine), True)
            self.assertEqual(log.write(None, many_changes([("new", (1,), True)])).number, 1)
            self.assertEqual(replayed(log.text).rows("new"), ((1,),))

    def test_stages(self):
        text, _, states = drawn_log(random.Random(5), 4)
        self.assertEqual(stages(text), states)
        self.assertEqual(stages(text[:-1]), states[:-1])
        self.assertEqual(stages(""), ((),))
        self.refused(stages, text.replace("begin 1", "begin 7"))

    def test_shortened_by_none_by_some_and_by_all(self):
        for seed in range(25):
            text, engine, states = drawn_log(random.Random(seed), 4)
            self.assertEqual(shortened(text, 0), text)
            for many in range(1, 5):
                short = shortened(text, many)
                blocks = blocks_of(short)
                self.assertEqual([block.number for block in blocks], list(range(5 - many)))
                self.assertEqual(stages(short), ((),) + states[many:])
                self.assertIs(same(replayed(short), engine), True)
                tail = blocks_of(text)[many:]
                self.assertEqual([block.shown()[1:] for block in blocks[1:]], [block.shown()[1:] for block in tail])

    def test_shortened_twice(self):
        text, engine, _ = drawn_log(random.Random(77), 5)
        short = shortened(shortened(text, 3), 2)
        self.assertEqual(len(blocks_of(short)), 2)
        self.assertIs(same(replayed(short), engine), True)

    def test_fewer_than_it_has(self):
        text, _, _ = drawn_log(random.Random(3), 3)
        for many in (4, 5, 100):
            self.refused(shortened, text, many)
        self.refused(shortened, text[:-1], 3)
        self.refused(shortened, "", 1)
        self.assertEqual(shortened("", 0), "")

    def test_a_torn_end_is_left_out(self):
        text, _, states = drawn_log(random.Random(9), 3)
        self.assertEqual(stages(shortened(text[:-3], 1)), ((),) + states[1:3])

    def test_a_log_that_is_not_whole(self):
        text, _, _ = drawn_log(random.Random(4), 3)
        for many in (0, 1, 2, 3):
            self.refused(shortened, text.replace("begin 1", "begin 3"), many)

    def test_drawn_saves(self):
        for seed in range(60):
            _, engine, _ = drawn_log(random.Random(100 + seed), 3)
            other = restored(saved(engine))
            self.assertEqual(state_of(other), state_of(engine))
            self.assertEqual(other.shown(), oracle.shown(oracle.model_of(other.rules, other.facts())))


if __name__ == "__main__":
    unittest.main()
