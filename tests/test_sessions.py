"""Sessions, [33] (with [19], [22] to [26] and [34]): each kind of line and what it answers, logs and saves."""

import unittest

import oracle
from deducehall.engines import Engine
from deducehall.errors import BadDeed, BadRule, BadSign, BadSize, BadStore, NoSuch
from deducehall.grounds import ground
from deducehall.logs import blocks_of, replayed
from deducehall.readers import read_rule, told_rule
from deducehall.saves import same, saved
from deducehall.sessions import (
    Session, first_word, from_log, from_save, rules_told, told_row, told_rows, why_lines,
)

PATHS = ("rule path(X, Y) :- edge(X, Y).", "rule path(X, Z) :- edge(X, Y), path(Y, Z).")
EDGES = ("+ edge(1, 2).", "+ edge(2, 3).")


def session_of(*lines):
    session = Session()
    for line in lines:
        answer = session.say(line)
        assert not answer[:1] or not answer[0].startswith("error"), (line, answer)
    return session


def state_of(session):
    hold = session.hold
    return (rules_told(session), session.engine.facts(), session.engine.shown(), session.bounds.shown(),
            sorted(session.watches.held), hold.is_open(), hold.kept, list(hold.marks), session.log.text, session.log.many)


class SessionCase(unittest.TestCase):
    def says(self, session, *pairs):
        for line, answer in pairs:
            found = session.say(line)
            self.assertIs(type(found), tuple)
            self.assertEqual(found, answer, line)

    def refused(self, session, why, *lines):
        for line in lines:
            before = state_of(session)
            self.assertEqual(session.say(line), (f"error: {why}",), line)
            self.assertEqual(state_of(session), before, line)


class FactsTest(SessionCase):
    def test_put_in_and_taken_out(self):
        session = Session()
        self.says(session, ("+ edge(1, 2).", ("kept 1",)), ("+ on.", ("kept 1",)), ("- on.", ("kept 1",)),
                  ("rule path(X, Y) :- edge(X, Y).", ("kept 1",)), ("+ edge('it\\'s', -3).", ("kept 2",)),
                  ("- edge(1, 2).", ("kept 2",)), ("+ path(1, 9).", ("kept 1",)), ("+ path('it\\'s', -3).", ("kept 0",)))
        self.assertEqual(session.engine.shown(), (
            ("edge", (("it's", -3),)), ("path", ((1, 9), ("it's", -3)))))

    def test_blanks_at_both_ends(self):
        session = Session()
        self.says(session, ("  +   p( 1 ).  ", ("kept 1",)), ("\t+\tp(2).\n", ("kept 1",)), ("+ p('  ').", ("kept 1",)))
        self.assertEqual(session.engine.rows("p"), ((1,), (2,), ("  ",)))

    def test_there_or_not_there(self):
        session = session_of(*PATHS, *EDGES)
        self.refused(session, "no such", "+ edge(1, 2).", "- edge(1, 9).", "- path(1, 2).", "- nobody.")
        session.say("begin")
        self.refused(session, "no such", "+ edge(1, 2).", "- edge(1, 9).", "- path(1, 2).", "- nobody.")

    def test_what_is_no_fact(self):
        session = session_of(*PATHS, *EDGES)
        for word in "+-":
            self.refused(session, "rule", f"{word} edge(1, X).", f"{word} edge(1, 2) :- on.", f"{word} ?- edge(1, 2).",
                         f"{word} on. off.", f"{word} not(1).", word, f"{word} ! :- edge(1, 1).", f"{word} # nothing")
            self.refused(session, "sign", f"{word} edge(1, 2)", f"{word} edge(1,, 2).", f"{word} Edge(1, 2).",
                         f"{word} edge(1000000000000000000, 1).", f"{word} edge('a).", f"{word} ;")
            self.refused(session, "kind", "+ edge(1).", "+ path(1, 2, 3).", "+ edge.")


class RulesTest(SessionCase):
    def test_put_in_last_and_taken_out(self):
        session = session_of("+ p(1).")
        self.says(session, ("rule q(X) :- p(X).", ("kept 1",)), ("rule a(X) :- q(X).", ("kept 1",)),
                  ("rule q(X) :- p(X), X < 3.", ("kept 0",)), ("unrule q(Y) :- p(Y).", ("kept 0",)),
                  ("rule q(A) :- p(A).", ("kept 0",)))
        self.assertEqual(rules_told(session), ("a(X) :- q(X).", "q(X) :- p(X), X < 3.", "q(A) :- p(A)."))
        self.says(session, ("unrule a(Y) :- q(Y).", ("kept 1",)))
        self.assertEqual(session.engine.shown(), (("p", ((1,),)), ("q", ((1,),))))

    def test_one_that_is_there_or_is_not(self):
        session = session_of(*PATHS)
        self.refused(session, "no such", "rule path(A, B) :- edge(A, B).", "unrule path(X, Y) :- edge(Y, X).",
                     "unrule edge(1, 2).", "unrule path(X) :- edge(X).")

    def test_what_is_refused(self):
        session = session_of(*PATHS, *EDGES)
        self.refused(session, "rule", "rule edge(1, 2).", "rule q(X) :- edge(Y, Z).", "rule q(X) :- not edge(X, X).",
                     "rule ?- edge(X, Y).", "rule", "unrule", "rule q(X) :- edge(X, Y). r(X) :- edge(X, Y).",
                     "rule q(sum(1)) :- edge(X, Y).")
        self.refused(session, "kind", "rule edge(X) :- path(X, Y).", "rule q(X) :- edge(X).", "rule q(X) :- q(X, X), edge(X, X).")
        self.refused(session, "layer", "rule edge(X, Y) :- path(X, Y), not edge(Y, X).", "rule edge(X, count(Y)) :- path(X, Y).",
                     "rule edge(X, Z) :- path(X, Y), Z := Y + 1.")
        self.refused(session, "sign", "rule q(X) :- edge(X, Y)", "rule q(X) : - p(X).", "rule q(_1) :- p(_1).",
                     "rule q(count(X), sum(X)) :- p(X).")


class TransactionsTest(SessionCase):
    def test_kept(self):
        session = session_of(*PATHS)
        self.says(session, ("begin", ("done",)), ("+ edge(1, 2).", ("done",)), ("+ on.", ("done",)), ("- on.", ("done",)),
                  ("rule far(X, Z) :- path(X, Y), path(Y, Z).", ("done",)), ("+ edge(2, 3).", ("done",)),
                  ("unrule path(A, B) :- edge(A, B).", ("done",)), ("+ path(2, 2).", ("done",)), ("keep", ("kept 3",)))
        self.assertEqual(session.engine.shown(), (
            ("edge", ((1, 2), (2, 3))), ("far", ((1, 2), (2, 2))), ("path", ((1, 2), (2, 2)))))
        self.assertEqual(session.hold.kept, 3)

    def test_thrown_away(self):
        session = session_of(*PATHS, *EDGES)
        before = state_of(session)
        self.says(session, ("begin", ("done",)), ("- edge(1, 2).", ("done",)), ("unrule path(X, Y) :- edge(X, Y).", ("done",)),
                  ("mark here", ("done",)), ("+ edge(5, 5).", ("done",)), ("throw", ("done",)))
        self.assertEqual(state_of(session), before)

    def test_gone_back_to(self):
        session = session_of(*PATHS)
        self.says(session, ("begin", ("done",)), ("+ edge(1, 2).", ("done",)), ("mark one", ("done",)),
                  ("+ edge(2, 3).", ("done",)), ("mark two", ("done",)), ("rule on :- path(1, 3).", ("done",)),
                  ("- edge(1, 2).", ("done",)), ("back two", ("done",)), ("?- path(1, X)", ("X", "2", "3")),
                  ("mark one", ("done",)), ("+ edge(3, 4).", ("done",)), ("back two", ("done",)))
        self.refused(session, "no such", "back one", "back three")
        self.says(session, ("back two", ("done",)), ("keep", ("kept 2",)))
        self.assertEqual(session.engine.facts(), (("edge", (1, 2)), ("edge", (2, 3))))

    def test_deeds_that_are_not_due(self):
        session = session_of(*PATHS, *EDGES)
        self.refused(session, "deed", "keep", "throw", "mark here", "back here")
        session.say("begin")
        session.say("mark here")
        self.refused(session, "deed", "begin", "! :- edge(X, X).", "watch w ?- edge(X, Y).", "! nonsense", "watch", "!")
        session.say("keep")
        self.refused(session, "deed", "keep", "throw", "mark here", "back here")

    def test_what_is_refused_within_leaves_the_transaction_open(self):
        session = session_of(*PATHS, *EDGES, "begin", "+ edge(3, 4).")
        self.refused(session, "no such", "+ edge(3, 4).", "unwatch w", "back here")
        self.refused(session, "kind", "+ edge(3).")
        self.refused(session, "layer", "rule edge(X, Y) :- path(X, Y), not edge(Y, X).")
        self.says(session, ("keep", ("kept 2",)))

    def test_one_that_breaks_a_bound(self):
        session = session_of(*PATHS, *EDGES, "! :- path(X, X).", "! :- on.")
        self.refused(session, "broken", "+ edge(3, 1).", "+ on.", "rule path(X, X) :- edge(X, Y).", "rule on :- edge(1, 2).")
        before = state_of(session)
        for lines in (("+ edge(3, 1).",), ("+ edge(7, 8).", "mark here", "rule on :- edge(7, X).", "- edge(1, 2).")):
            self.says(session, ("begin", ("done",)), *[(line, ("done",)) for line in lines], ("keep", ("error: broken",)))
            self.assertEqual(state_of(session), before)
        self.says(session, ("begin", ("done",)), ("+ edge(3, 1).", ("done",)), ("- edge(3, 1).", ("done",)), ("keep", ("kept 0",)))

    def test_within_one_the_store_is_as_it_is_by_then(self):
        session = session_of(*PATHS, *EDGES, "begin", "+ edge(3, 4).")
        self.says(session, ("?- path(X, 4).", ("X", "1", "2", "3")), ("why edge(3, 4).", ("edge(3, 4). fact",)))


class LinesTest(SessionCase):
    def test_words_that_are_no_deed(self):
        session = session_of(*EDGES)
        self.refused(session, "sign", "", "   ", "put p(1).", "+p(1).", "?-edge(X, Y)", "Begin", "edge(1, 2).", "# begin",
                     "commit", "bound", "- -", ":- edge(X, X).")
        self.refused(session, "sign", "mark", "back", "unwatch", "watch", "mark a b", "unwatch a b")

    def test_do(self):
        session = session_of(*EDGES)
        self.assertEqual(session.do("+", "p(1)."), ("kept 1",))
        with self.assertRaises(BadSign):
            session.do("nothing", "p(1).")
        with self.assertRaises(NoSuch):
            session.do("+", "p(1).")
        with self.assertRaises(BadRule):
            session.change("-", "p(X).")
        self.assertEqual(session.change("-", "p(1)."), ("kept 1",))
        session.say("begin")
        for word in ("!", "watch"):
            with self.assertRaises(BadDeed):
                session.do(word, "no such text")
        with self.assertRaises(NoSuch):
            session.one_change("+", read_rule("edge(1, 2)."))
        session.one_change("rule", read_rule("p(X) :- edge(X, Y)."))
        with self.assertRaises(NoSuch):
            session.one_change("rule", read_rule("p(X) :- edge(X, Z)."))
        self.assertEqual(session.hold_deed("mark", "here"), ("done",))
        self.assertEqual(session.keep(), ("kept 1",))

    def test_each_refusal_has_its_words(self):
        # No line can say a number of more figures than signs have: the size is refused by hand here.
        class TooLarge(Session):
            def do(self, word, rest):
                raise BadSize("too large")
        self.assertEqual(TooLarge().say("+ p(1)."), ("error: size",))

    def test_first_word(self):
        for line, words in (("+ p(1).", ("+", "p(1).")), ("  begin  ", ("begin", "")), ("", ("", "")), (" \t\n", ("", "")),
                            ("watch  w   ?- p(X). ", ("watch", "w   ?- p(X).")), ("a\tb\nc", ("a", "b\nc")), ("x", ("x", ""))):
            self.assertEqual(first_word(line), words)

    def test_rows_told(self):
        self.assertEqual(told_row((1, "a", "not", -3, "it's", "a\nb")), "1, a, 'not', -3, 'it\\'s', 'a\\nb'")
        self.assertEqual(told_row(()), "")
        self.assertEqual(told_rows([(1, 2), ("w",), ()]), ("1, 2", "w", ""))
        self.assertEqual(told_rows(()), ())

    def test_fields(self):
        session = Session()
        self.assertIs(session.hold.engine, session.engine)
        self.assertIs(session.hold.bounds, session.bounds)
        self.assertIs(session.hold.watches, session.watches)
        self.assertEqual((session.log.text, session.log.many, session.engine.shown(), session.hold.kept), ("", 0, (), 0))
        engine = Engine((), [("p", (1,))])
        self.assertIs(Session(engine).engine, engine)
        self.assertEqual(Session(engine).say("?- p(X)"), ("X", "1"))


class QuestionsTest(SessionCase):
    def test_names_then_rows(self):
        session = session_of(*PATHS, *EDGES, "+ edge(w, 'A b').")
        self.says(session, ("?- path(X, Y), X != w.", ("X Y", "1, 2", "1, 3", "2, 3")), ("?- path(X, 'A b')", ("X", "w")),
                  ("?- edge(1, 2).", ("", "")), ("?- edge(2, 1)", ("",)), ("?- nobody(X, _, Y).", ("X Y",)),
                  ("?- edge(X, _), not edge(_, X), X < a.", ("X", "1")), ("?- edge(X, Y), Z := X + Y.", (
                      "X Y Z", "1, 2, 3", "2, 3, 5")), ("?- edge(X, X) # a remark", ("X",)))

    def test_what_is_refused(self):
        session = session_of(*EDGES)
        self.refused(session, "sign", "?- edge(X", "?- ", "?- edge(X, Y),", "?- edge(X, Y) edge(X, Y).", "?- ?- edge(X, Y).",
                     "?- .", "?- not(X).")
        self.refused(session, "rule", "?- X < 3.", "?- edge(X, Y). on.", "?- not edge(X, Y), not on(X, Y).")


class BoundsTest(SessionCase):
    def test_numbers(self):
        session = session_of(*PATHS, *EDGES)
        self.says(session, ("! :- path(X, X).", ("bound 0",)), ("! :- edge(X, Y), Y < X.", ("bound 1",)))
        session.bounds.lift(0)
        self.says(session, ("+ edge(5, 5).", ("kept 2",)), ("! :- on.", ("bound 2",)))
        self.assertEqual([one is None for one in session.bounds.held], [True, False, False])

    def test_what_is_refused(self):
        session = session_of(*PATHS, *EDGES)
        self.refused(session, "broken", "! :- path(1, 3).", "! :- not on.")
        self.refused(session, "rule", "! :- X < 3.", "! :- on. ! :- off.", "! :- not path(X, Y), not on(X).")
        self.refused(session, "sign", "!", "! path(X, X).", "! :- path(X, X)", "! ?- path(X, X).", "! :- .")


class WatchesTest(SessionCase):
    def test_rows_then_news(self):
        session = session_of(*PATHS, *EDGES)
        self.says(session, ("watch to ?- path(X, 3).", ("1", "2")), ("watch Flags ?- flag(X).", ()),
                  ("watch any ?- edge(_, _).", ("",)), ("watch from ?- path(2, X), X != w.", ("3",)),
                  ("+ flag('A').", ("kept 1", "Flags + 'A'")),
                  ("- edge(2, 3).", ("kept 2", "from - 3", "to - 1", "to - 2")),
                  ("begin", ("done",)), ("+ edge(2, 0).", ("done",)), ("+ edge(2, w).", ("done",)), ("+ edge(w, 3).", ("done",)),
                  ("- flag('A').", ("done",)), ("+ flag(2).", ("done",)), ("+ flag(-1).", ("done",)),
                  ("keep", ("kept 3", "Flags + -1", "Flags + 2", "Flags - 'A'", "from + 0", "from + 3",
                            "to + 1", "to + 2", "to + w")))

    def test_a_row_of_no_values(self):
        session = session_of("watch on ?- on.")
        self.says(session, ("+ on.", ("kept 1", "on + ")), ("- on.", ("kept 1", "on - ")))

    def test_what_is_thrown_away_or_broken_is_no_news(self):
        session = session_of(*PATHS, *EDGES, "watch to ?- path(X, 3).", "! :- on.")
        self.says(session, ("begin", ("done",)), ("- edge(2, 3).", ("done",)), ("throw", ("done",)),
                  ("begin", ("done",)), ("- edge(2, 3).", ("done",)), ("+ on.", ("done",)), ("keep", ("error: broken",)),
                  ("+ edge(3, 3).", ("kept 2", "to + 3")))

    def test_rules_that_change_make_news(self):
        session = session_of(*PATHS, *EDGES, "watch to ?- path(X, 3).")
        self.says(session, ("unrule path(X, Z) :- edge(X, Y), path(Y, Z).", ("kept 1", "to - 1")),
                  ("rule path(X, 3) :- edge(_, X).", ("kept 1", "to + 3")))

    def test_set_again_and_lifted(self):
        session = session_of(*EDGES, "watch w ?- edge(1, X).")
        self.says(session, ("watch w ?- edge(X, 3).", ("2",)), ("+ edge(1, 9).", ("kept 1",)), ("+ edge(9, 3).", ("kept 1", "w + 9")),
                  ("unwatch w", ("unwatched",)), ("+ edge(8, 3).", ("kept 1",)))
        self.refused(session, "no such", "unwatch w", "unwatch other")
        self.says(session, ("watch w ?- edge(X, 3).", ("2", "8", "9")), ("begin", ("done",)), ("unwatch w", ("unwatched",)))

    def test_what_is_refused(self):
        session = session_of(*EDGES, "watch w ?- edge(1, X).")
        self.refused(session, "sign", "watch w ?- edge(X", "watch w edge(1, X)")
        self.refused(session, "rule", "watch w", "watch w edge(1, 2).", "watch w ?- X < 1.", "watch w ! :- edge(1, X).")


class WhyTest(SessionCase):
    def test_of_a_fact_and_of_a_row_told(self):
        session = session_of(*PATHS, *EDGES, "rule far(X, Z) :- path(X, Y), Y < Z, path(Y, Z), not near(X, Z), path(X, Y).",
                             "rule many(count(X)) :- path(X, Y).", "rule two(N) :- many(N), edge(1, 2).")
        self.says(session, ("why edge(1, 2).", ("edge(1, 2). fact",)),
                  ("why path(1, 3).", ("path(1, 3). rule 1", "  edge(1, 2). fact", "  path(2, 3). rule 0", "    edge(2, 3). fact")),
                  ("why far(1, 3).", ("far(1, 3). rule 2", "  path(1, 2). rule 0", "    edge(1, 2). fact", "  path(2, 3). rule 0",
                                      "    edge(2, 3). fact", "  path(1, 2). rule 0", "    edge(1, 2). fact")),
                  ("why many(3).", ("many(3). rule 3",)), ("why two(3).", ("two(3). rule 4", "  many(3). rule 3", "  edge(1, 2). fact")))

    def test_of_a_row_that_is_not_told(self):
        session = session_of(*PATHS, *EDGES, "rule path(X, 9) :- edge(X, Y), not edge(Y, X), Y < 1.",
                             "rule path(X, most(Y)) :- edge(X, Y).")
        self.says(session, ("why path(2, 1).", ("not: rule 0 up to 0", "not: rule 1 up to 1")),
                  ("why path(1, 9).", ("not: rule 0 up to 0", "not: rule 1 up to 1", "not: rule 2 up to 2")),
                  ("why edge(9, 9).", ()), ("why nobody(1).", ()), ("why path(1).", ()))

    def test_what_is_no_fact(self):
        session = session_of(*PATHS, *EDGES)
        self.refused(session, "rule", "why path(1, X).", "why path(1, 2) :- on.", "why", "why ?- path(1, 2).", "why on. off.")
        self.refused(session, "sign", "why path(1, 2)", "why path(1", "why Path(1).")

    def test_lines_of_a_ground(self):
        session = session_of(*PATHS, *EDGES)
        one = ground(session.engine, "path", (1, 3))
        lines = why_lines(one, "    ")
        self.assertIs(type(lines), list)
        self.assertEqual(lines, ["    " + line for line in session.say("why path(1, 3).")])

    def test_a_long_way_down(self):
        facts = [("edge", (number, number + 1)) for number in range(1500)] + [("near", (0,))]
        session = Session(Engine([read_rule("near(Y) :- edge(X, Y), near(X).")], facts))
        lines = session.say("why near(1500).")
        self.assertEqual(len(lines), 3001)
        self.assertEqual(lines[-2:], ("  " * 1500 + "edge(0, 1). fact", "  " * 1500 + "near(0). fact"))


class LogTest(SessionCase):
    def test_what_changed_is_written(self):
        session = session_of("+ edge(b, 2).", *PATHS[:1], "begin", "+ edge(1, 2).", "- edge(b, 2).", "+ on.", "keep",
                             "begin", "+ off.", "throw", "begin", "+ off.", "- off.", "keep", "! :- off.", "watch w ?- on.")
        session.say("+ off.")
        session.say("+ on.")
        rule = "path(X, Y) :- edge(X, Y)."
        self.assertEqual([block.shown() for block in blocks_of(session.log.text)], [
            (0, None, (("edge", ("b", 2), True),)), (1, (rule,), ()),
            (2, None, (("edge", ("b", 2), False), ("edge", (1, 2), True), ("on", (), True)))])
        self.assertEqual((session.log.many, session.hold.kept), (3, 4))
        self.assertIs(same(replayed(session.log.text), session.engine), True)

    def test_rules_and_facts_in_one(self):
        session = session_of("begin", "+ edge(1, 2).", PATHS[0], PATHS[1], "unrule path(A, B) :- edge(A, B).", "keep",
                             "begin", "unrule path(X, Z) :- edge(X, Y), path(Y, Z).", PATHS[1], "keep", PATHS[0])
        self.assertEqual([block.shown()[1:] for block in blocks_of(session.log.text)], [
            ((PATHS[1][5:],), (("edge", (1, 2), True),)), ((PATHS[1][5:], PATHS[0][5:]), ())])
        self.assertEqual(rules_told(session), (PATHS[1][5:], PATHS[0][5:]))

    def test_told_rows_alone_are_not_written(self):
        session = session_of(*PATHS[:1], "+ edge(1, 2).")
        self.assertNotIn("path(1, 2)", session.log.text)

    def test_a_session_from_a_log_cut_anywhere(self):
        session = Session()
        lines = ("+ edge(1, 'it\\'s').", *PATHS, "+ edge('it\\'s', -3).", "- edge(1, 'it\\'s').", "+ on.")
        texts, states = [""], [((), (), ())]
        for line in lines:
            session.say(line)
            texts.append(session.log.text)
            states.append(state_of(session)[:3])
        for place in range(len(session.log.text) + 1):
            whole = max(number for number, text in enumerate(texts) if len(text) <= place)
            other = from_log(session.log.text[:place])
            self.assertEqual(state_of(other)[:3], states[whole])
            self.assertEqual((other.log.text, other.log.many), (texts[whole], whole))

    def test_it_goes_on(self):
        session = session_of(*PATHS, *EDGES)
        other = from_log(session.log.text + "begin 4\n+ edge(")
        self.assertIs(other.hold.is_open(), False)
        for line in ("+ edge(3, 4).", "unrule path(X, Y) :- edge(X, Y).", "- edge(1, 2)."):
            self.assertEqual(other.say(line), session.say(line))
        self.assertEqual(other.log.text, session.log.text)
        self.assertEqual((other.log.many, other.hold.kept), (7, 3))

    def test_one_that_is_not_whole(self):
        session = session_of(*PATHS, *EDGES)
        text = session.log.text
        for other in (text.replace("begin 1", "begin 2"), text.replace("edge(1, 2)", "edge(1, 7)"), text + text):
            with self.assertRaises(BadStore):
                from_log(other)


class SaveTest(SessionCase):
    def test_saved_and_restored(self):
        session = session_of(*PATHS, *EDGES, "+ on.", "rule far(X) :- path(X, Y), not edge(X, Y).")
        text = session.save()
        self.assertEqual(text, saved(session.engine))
        other = from_save(text)
        self.assertEqual(state_of(other)[:3], state_of(session)[:3])
        self.assertEqual((other.log.many, len(blocks_of(other.log.text))), (1, 1))
        self.assertIs(same(replayed(other.log.text), session.engine), True)
        for line in ("+ edge(3, 4).", "?- far(X)", "why far(2)."):
            self.assertEqual(other.say(line), session.say(line))
        self.assertEqual(other.log.many, 2)
        third = from_log(other.log.text)
        self.assertEqual(state_of(third)[:3], state_of(session)[:3])

    def test_nothing_saved(self):
        self.assertEqual(Session().save(), "# 0\n")
        self.assertEqual(from_save("# 0\n").engine.shown(), ())

    def test_in_a_transaction_nothing_is_saved(self):
        session = session_of(*EDGES, "begin")
        before = state_of(session)
        with self.assertRaises(BadDeed) as caught:
            session.save()
        self.assertIs(type(caught.exception), BadDeed)
        self.assertEqual(state_of(session), before)
        session.say("throw")
        self.assertEqual(session.save(), saved(session.engine))

    def test_a_text_that_is_not_whole(self):
        text = session_of(*PATHS, *EDGES).save()
        for place in range(len(text)):
            with self.assertRaises(BadStore):
                from_save(text[:place])

    def test_rules_told(self):
        session = session_of("rule p(X) :- q(X, _), not r(X).", "rule p(count(X)) :- q(X, Y), Y != 'B'.")
        self.assertEqual(rules_told(session), ("p(X) :- q(X, _), not r(X).", "p(count(X)) :- q(X, Y), Y != 'B'."))
        self.assertEqual(rules_told(session), tuple(told_rule(rule) for rule in session.engine.rules))
        self.assertEqual(rules_told(Session()), ())


class NamesTest(SessionCase):
    def test_names_of_the_languages_words_and_of_no_places(self):
        session = Session()
        self.says(session, ("+ count('count').", ("kept 1",)), ("+ sum.", ("kept 1",)), ("rule least(most(X)) :- count(X), sum.", ("kept 1",)),
                  ("?- least(X)", ("X", "'count'")), ("why least('count').", ("least('count'). rule 0",)))
        self.assertEqual(oracle.shown(oracle.model_of(session.engine.rules, session.engine.facts())), session.engine.shown())


if __name__ == "__main__":
    unittest.main()
