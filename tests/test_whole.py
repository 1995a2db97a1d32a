"""The whole program, [1]: drawn runs of deeds, held after each against the least model worked out by plain rounds."""

import random
import unittest

import oracle
from deducehall.engines import Engine
from deducehall.errors import BadGround, BadLayer, DeduceFault, NoSuch
from deducehall.grounds import check_ground, check_model, ground, model_table
from deducehall.joins import Views, solutions
from deducehall.layers import check_layers
from deducehall.logs import fact_text, replayed
from deducehall.plans import plan
from deducehall.queries import asked
from deducehall.readers import read, told_clause, told_rule
from deducehall.rounds import plain_model
from deducehall.rules import same_rule
from deducehall.saves import restored, saved, shortened
from deducehall.sessions import Session, from_log, from_save, rules_told
from deducehall.stores import store_of

BOUNDS = ("! :- p(X), s(X), X != x.", "! :- q(X, X), r(X, X).", "! :- z, a(1).", "! :- b(X, Y), b(Y, X), X < Y, not a(X).")
QUESTIONS = ("?- p(X), not s(X).", "?- q(X, Y), b(Y, _).", "?- r(_, X).", "?- z.", "?- a(X), Y := X + 1, Y != 3.")


def table_of(shown):
    return {name: set(rows) for name, rows in shown}


def told_row(row):
    return fact_text("p", row)[2:-2] if row else ""


class ByHand:
    """What a session ought to hold: rules, facts, bounds, watches, and what a transaction began from."""

    def __init__(self):
        self.rules = ()
        self.facts = frozenset()
        self.bounds = []
        self.watches = {}
        self.begun = None
        self.marks = []
        self.kept = 0

    def model(self):
        return oracle.model_of(self.rules, self.facts)

    def rows(self, text):
        rule = oracle.rules_of("answer" + self.head(text) + " :- " + text[3:])[0]
        return oracle.told_by(rule, self.model())

    def head(self, text):
        names = {}
        for part in read(text)[0].body:
            if part.kind != "neg":
                names.update({term.name: True for term in part.terms if term.name and term.name[0] != "_"})
        return f"({', '.join(names)})" if names else ""


class RunCase(unittest.TestCase):
    def grounded(self, engine):
        """Hold that each row told has a ground that the checker takes, and rows not told have none."""
        for name, rows in engine.shown():
            for row in rows:
                one = ground(engine, name, row)
                self.assertIs(check_ground(engine.rules, engine.facts(), engine.store, one), True)
        table = model_table(engine)
        self.assertEqual(check_model(engine.rules, engine.facts(), table).shown(), engine.shown())
        for name, row in (("p", (77,)), ("q", (1, 77)), ("b", ("x", 77))):
            with self.assertRaises(NoSuch):
                ground(engine, name, row)
            with self.assertRaises(BadGround):
                check_model(engine.rules, engine.facts(), table + ((name, row, 9),))

    def as_by_hand(self, engine, by_hand):
        self.assertEqual(set(engine.facts()), set(by_hand.facts))
        self.assertEqual([told_rule(rule) for rule in engine.rules], [told_rule(rule) for rule in by_hand.rules])
        self.assertEqual(engine.shown(), oracle.shown(by_hand.model()))
        plain = plain_model(by_hand.rules, check_layers(by_hand.rules), store_of(sorted(by_hand.facts, key=repr)))
        self.assertEqual(engine.shown(), plain.shown())


class SessionRunTest(RunCase):
    """Sessions by drawn lines: each answer told ahead by hand."""

    def test_runs(self):
        self.told = {}
        for seed in range(70):
            chosen = random.Random(seed)
            session, by_hand = Session(), ByHand()
            for number, text in enumerate(chosen.sample(BOUNDS, 2)):
                self.assertEqual(session.say(text), (f"bound {number}",) if not self.bound_breaks(by_hand, text)
                                 else ("error: broken",))
                if not self.bound_breaks(by_hand, text):
                    by_hand.bounds.append(text)
            for word in chosen.sample("abcde", 3):
                text = QUESTIONS["abcde".index(word)]
                self.assertEqual(session.say(f"watch {word} {text}"), ())
                by_hand.watches[word] = set()
            for _ in range(28):
                session = self.one_line(chosen, session, by_hand)
                self.as_by_hand(session.engine, by_hand)
            self.grounded(session.engine)
        for answer in ("done", "kept", "error: no such", "error: broken", "error: deed", "error: layer", "error: kind",
                       "error: rule", "error: sign", "news", "log", "save", "why", "not"):
            self.assertGreater(self.told.get(answer, 0), 4, answer)

    def bound_breaks(self, by_hand, text):
        return bool(oracle.all_bounds(Engine(oracle.rules_of("n :- " + text[5:])).rules[0], by_hand.model()))

    def count(self, answer):
        self.told[answer] = self.told.get(answer, 0) + 1

    def one_line(self, chosen, session, by_hand):
        word = chosen.choice(("fact", "fact", "fact", "fact", "rule", "rule", "unrule", "begin", "keep", "throw", "mark", "back",
                              "ask", "why", "wrong", "again"))
        if word == "again":
            return self.again(chosen, session, by_hand)
        line, expected = getattr(self, "line_" + word)(chosen, by_hand)
        answer = session.say(line)
        self.assertEqual(answer, expected, line)
        self.count(answer[0].split(" ")[0] if answer and not answer[0].startswith("error") else "".join(answer))
        if len(answer) > 1 and answer[0].startswith("kept"):
            self.count("news")
        return session

    def changed(self, by_hand, rules, facts):
        """Return what a change of rules and facts answers; have it done where it isn't refused."""
        if by_hand.begun is not None:
            by_hand.rules, by_hand.facts = rules, facts
            return ("done",)
        by_hand.begun = by_hand.rules, by_hand.facts
        by_hand.rules, by_hand.facts = rules, facts
        return self.kept(by_hand)

    def kept(self, by_hand):
        rules, facts = by_hand.begun
        after = by_hand.rules, by_hand.facts
        before = oracle.model_of(rules, facts)
        now = by_hand.model()
        turned = [name for name in set(before) | set(now) if before.get(name, set()) != now.get(name, set())]
        by_hand.begun, by_hand.marks = None, []
        if any(self.bound_breaks(by_hand, text) for text in by_hand.bounds):
            by_hand.rules, by_hand.facts = rules, facts
            return ("error: broken",)
        by_hand.rules, by_hand.facts = after
        lines = [f"kept {len(turned)}"]
        for word in sorted(by_hand.watches):
            rows = by_hand.rows(QUESTIONS["abcde".index(word)])
            last = by_hand.watches[word]
            for way, some in (("+", rows - last), ("-", last - rows)):
                lines += [f"{word} {way} {told_row(row)}" for row in sorted(some, key=oracle.row_key)]
            by_hand.watches[word] = rows
        return tuple(lines)

    def line_fact(self, chosen, by_hand):
        name, row = oracle.drawn_fact(chosen)
        is_there = (name, row) in by_hand.facts
        comes = is_there == (chosen.random() < 0.15)
        line = f"{'+' if comes else '-'} {fact_text(name, row)}"
        if comes == is_there:
            return line, ("error: no such",)
        return line, self.changed(by_hand, by_hand.rules, by_hand.facts ^ {(name, row)})

    def line_rule(self, chosen, by_hand):
        rule = oracle.drawn_rule(chosen)
        line = f"rule {told_rule(rule)}"
        if any(same_rule(rule, other) for other in by_hand.rules):
            return line, ("error: no such",)
        try:
            check_layers(by_hand.rules + (rule,))
        except BadLayer:
            return line, ("error: layer",)
        return line, self.changed(by_hand, by_hand.rules + (rule,), by_hand.facts)

    def line_unrule(self, chosen, by_hand):
        if not by_hand.rules or chosen.random() < 0.2:
            return "unrule p(X) :- p(X), p(X), q(X, X).", ("error: no such",)
        rule = chosen.choice(by_hand.rules)
        left = tuple(other for other in by_hand.rules if other is not rule)
        line = f"unrule {told_rule(rule.plain() if '_' not in told_rule(rule) else rule)}"
        return line, self.changed(by_hand, left, by_hand.facts)

    def line_begin(self, chosen, by_hand):
        if by_hand.begun is not None:
            return "begin", ("error: deed",)
        by_hand.begun = by_hand.rules, by_hand.facts
        return "begin", ("done",)

    def line_keep(self, chosen, by_hand):
        return "keep", ("error: deed",) if by_hand.begun is None else self.kept(by_hand)

    def line_throw(self, chosen, by_hand):
        if by_hand.begun is None:
            return "throw", ("error: deed",)
        (by_hand.rules, by_hand.facts), by_hand.begun, by_hand.marks = by_hand.begun, None, []
        return "throw", ("done",)

    def line_mark(self, chosen, by_hand):
        word = chosen.choice("xyz")
        if by_hand.begun is None:
            return f"mark {word}", ("error: deed",)
        by_hand.marks = [mark for mark in by_hand.marks if mark[0] != word] + [(word, by_hand.rules, by_hand.facts)]
        return f"mark {word}", ("done",)

    def line_back(self, chosen, by_hand):
        word = chosen.choice("xyz")
        if by_hand.begun is None:
            return f"back {word}", ("error: deed",)
        places = [place for place, mark in enumerate(by_hand.marks) if mark[0] == word]
        if not places:
            return f"back {word}", ("error: no such",)
        _, by_hand.rules, by_hand.facts = by_hand.marks[places[0]]
        by_hand.marks = by_hand.marks[:places[0] + 1]
        return f"back {word}", ("done",)

    def line_ask(self, chosen, by_hand):
        text = chosen.choice(QUESTIONS)
        names = by_hand.head(text).strip("()").replace(",", "")
        return text, (names,) + tuple(told_row(row) for row in sorted(by_hand.rows(text), key=oracle.row_key))

    def line_why(self, chosen, by_hand):
        name, row = oracle.drawn_fact(chosen)
        line = f"why {fact_text(name, row)}"
        engine = Engine(by_hand.rules, sorted(by_hand.facts, key=repr))
        if row in by_hand.model().get(name, set()):
            self.count("why")
            lines, left = [], [(ground(engine, name, row), 0)]
            while left:
                one, deep = left.pop(0)
                by = "fact" if one.number is None else f"rule {one.number}"
                lines.append(f"{'  ' * deep}{fact_text(one.name, one.row)} {by}")
                left = [(part, deep + 1) for part in one.parts] + left
            return line, tuple(lines)
        self.count("not")
        lines = []
        for number, rule in enumerate(engine.rules):
            start = oracle.fits(rule.terms, row, {}) if rule.name == name and rule.summed is None else None
            if start is not None:
                sizes = {part.name: engine.store.of(part.name).size() for part in rule.body if part.kind in ("pos", "neg")}
                order = plan(rule, sizes, None, tuple(start)).order
                many = [count for count in range(len(order) + 1)
                        if solutions(rule, order[:count], Views(engine.store), start) != []]
                lines.append(f"not: rule {number} up to {max(many)}")
        return line, tuple(lines)

    def line_wrong(self, chosen, by_hand):
        pairs = [("+ p(1, 2).", "kind"), ("+ p(X).", "rule"), ("- z(", "sign"), ("rule p(X) :- q(X).", "kind"), ("what p(1).", "sign"),
                 ("rule p(X) :- a(X), not p(X).", "layer"), ("rule p(X) :- b(Y, Y).", "rule"), ("unwatch no", "no such"),
                 ("rule p(1).", "rule"), ("rule b(X, count(Y)) :- b(X, Y).", "layer"), ("?- X < Y.", "rule")]
        line, why = chosen.choice(pairs)
        if why == "kind" and not self.knows(by_hand, "q" if line.startswith("rule") else "p"):
            return "what", ("error: sign",)
        return line, (f"error: {why}",)

    def knows(self, by_hand, name):
        asked_names = {part.name for rule in by_hand.rules for part in rule.body if part.kind in ("pos", "neg")}
        return name in asked_names | {rule.name for rule in by_hand.rules} | {other for other, _ in by_hand.facts}

    def again(self, chosen, session, by_hand):
        """Go on with a session of the log, perhaps with a torn end, or of the save; bounds and watches are set again."""
        if by_hand.begun is not None:
            return session
        self.count("log")
        torn = session.log.text + "begin 999\n+ p(1).\nend 1"[:chosen.randint(0, 18)]
        other = from_log(torn)
        self.assertEqual((other.log.text, other.log.many), (session.log.text, session.log.many))
        self.as_by_hand(other.engine, by_hand)
        if chosen.random() < 0.5:
            self.count("save")
            other = from_save(session.save())
            self.assertEqual(other.log.many, 1)
            self.as_by_hand(other.engine, by_hand)
            self.as_by_hand(replayed(other.log.text), by_hand)
        for number, text in enumerate(by_hand.bounds):
            self.assertEqual(other.say(text), (f"bound {number}",))
        for word in by_hand.watches:
            rows = sorted(by_hand.rows(QUESTIONS["abcde".index(word)]), key=oracle.row_key)
            self.assertEqual(other.say(f"watch {word} {QUESTIONS['abcde'.index(word)]}"), tuple(told_row(row) for row in rows))
        return other


class CutLogTest(RunCase):
    def test_a_session_from_any_cut_goes_on(self):
        for seed in range(12):
            chosen = random.Random(900 + seed)
            session = Session()
            states = {0: ((), (), ())}
            while session.log.many < 7:
                if chosen.random() < 0.4:
                    session.say(f"rule {told_rule(oracle.drawn_rule(chosen))}")
                else:
                    session.say(f"+ {fact_text(*oracle.drawn_fact(chosen))}")
                states[session.log.many] = rules_told(session), session.engine.facts(), session.engine.shown()
            text = session.log.text
            for place in sorted(chosen.sample(range(len(text) + 1), min(60, len(text)))):
                other = from_log(text[:place])
                self.assertEqual((rules_told(other), other.engine.facts(), other.engine.shown()), states[other.log.many])
            for many in range(8):
                short = shortened(text, many)
                self.assertEqual(replayed(short).shown(), session.engine.shown())
            self.grounded(session.engine)


class EngineRunTest(RunCase):
    """Engines by drawn deeds, refused ones among them; restored ones go on alike."""

    def test_refusals_change_nothing_whatever_was_refused_ahead(self):
        refused = {}
        for seed in range(60):
            chosen = random.Random(300 + seed)
            engine = Engine(oracle.drawn_rules(chosen, 3), [oracle.drawn_fact(chosen) for _ in range(5)])
            for _ in range(15):
                before = [told_rule(rule) for rule in engine.rules], engine.facts(), engine.shown(), engine.places.shown()
                try:
                    self.one_deed(chosen, engine)
                except DeduceFault as fault:
                    refused[type(fault).__name__] = refused.get(type(fault).__name__, 0) + 1
                    self.assertEqual(([told_rule(rule) for rule in engine.rules], engine.facts(), engine.shown(),
                                      engine.places.shown()), before)
                self.assertEqual(engine.shown(), oracle.shown(oracle.model_of(engine.rules, engine.facts())))
            other = restored(saved(engine))
            self.assertEqual((other.facts(), other.shown()), (engine.facts(), engine.shown()))
            self.grounded(engine)
        self.assertEqual(sorted(refused), ["BadKind", "BadLayer", "BadRule", "BadSize", "NoSuch"])

    def one_deed(self, chosen, engine):
        name, row = oracle.drawn_fact(chosen)
        word = chosen.choice(("put", "put", "take", "kind", "size", "name", "rules", "layer", "unsafe"))
        if word == "put":
            engine.put(name, row)
        elif word == "take":
            facts = engine.facts()
            engine.take(*(chosen.choice(facts) if facts and chosen.random() < 0.7 else (name, row)))
        elif word == "kind":
            engine.put("b", (1,) if ("b", (1,)) not in engine.facts() and engine.places_for("b") == 2 else (1, 1, 1))
        elif word == "size":
            engine.put(name, (10 ** 18,) * len(row) if row else (10 ** 18,))
        elif word == "name":
            engine.put(chosen.choice(("not", "Ann", "", "a b")), row)
        elif word == "rules":
            engine.with_rules(oracle.drawn_rules(chosen, chosen.randint(0, 4)))
        elif word == "layer":
            engine.with_rules(tuple(engine.rules) + oracle.rules_of("p(X) :- a(X), not s(X). s(X) :- p(X), a(X)."))
        else:
            engine.with_rules(tuple(engine.rules) + oracle.rules_of("p(X) :- a(Y)."))


class QuestionTest(RunCase):
    def test_questions_told_and_read_again_answer_the_same(self):
        for seed in range(60):
            chosen = random.Random(600 + seed)
            engine = Engine(oracle.drawn_rules(chosen, 4), [oracle.drawn_fact(chosen) for _ in range(8)])
            for text in QUESTIONS:
                again = told_clause(read(text)[0])
                self.assertEqual(asked(engine, again), asked(engine, text))


if __name__ == "__main__":
    unittest.main()
