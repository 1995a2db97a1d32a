"""Sessions: an engine, its bounds, watches, transactions and log, spoken to line by line."""

from deducehall.bounds import Bounds
from deducehall.engines import Engine
from deducehall.errors import (
    BadDeed, BadKind, BadLayer, BadRule, BadSign, BadSize, Broken, DeduceFault, NoSuch,
)
from deducehall.grounds import ground, nearest
from deducehall.holds import Hold
from deducehall.logs import Log, blocks_of, fact_text, replayed, rules_written
from deducehall.queries import asked, bound_of
from deducehall.readers import read_rule
from deducehall.rules import same_rule
from deducehall.safety import is_fact, row_of
from deducehall.saves import as_block, restored, saved
from deducehall.signs import cut
from deducehall.terms import told_value
from deducehall.watches import Watches

CHANGES = ("+", "-", "rule", "unrule")
DEEDS = ("begin", "keep", "throw")
MARKS = ("mark", "back")
SETTING = ("!", "watch")
WHITE = " \t\n"


class Session:
    """An engine and all that goes with it; each line outside a transaction is one of its own."""

    def __init__(self, engine=None):
        self.engine = Engine() if engine is None else engine
        self.bounds = Bounds()
        self.watches = Watches()
        self.hold = Hold(self.engine, self.bounds, self.watches)
        self.log = Log()

    def say(self, line):
        """Do what a line says; return a tuple of the lines it answers, ("error: ...",) for what is refused."""
        word, rest = first_word(line)
        try:
            return self.do(word, rest)
        except BadSign:
            return refused("sign")
        except BadRule:
            return refused("rule")
        except BadKind:
            return refused("kind")
        except BadLayer:
            return refused("layer")
        except NoSuch:
            return refused("no such")
        except BadDeed:
            return refused("deed")
        except Broken:
            return refused("broken")
        except BadSize:
            return refused("size")

    def do(self, word, rest):
        """Do a deed by its word; BadSign for another word."""
        if word in SETTING and self.hold.is_open():
            raise BadDeed("a transaction has begun")
        if word in CHANGES:
            return self.change(word, rest)
        if word in DEEDS or word in MARKS:
            return self.hold_deed(word, rest)
        if word == "?-":
            return self.answer(rest)
        if word == "!":
            return self.set_bound(rest)
        if word == "watch":
            return self.set_watch(rest)
        if word == "unwatch":
            self.watches.lift(one_word(rest))
            return ("unwatched",)
        if word == "why":
            return self.why(rest)
        raise BadSign(f"no deed: {word}")

    def change(self, word, rest):
        """Change a fact or the rules, in a transaction of its own where none is open."""
        rule = read_rule(rest)
        if word in ("+", "-") and not is_fact(rule):
            raise BadRule(f"no fact: {rule.name}")
        if self.hold.is_open():
            self.one_change(word, rule)
            return ("done",)
        self.hold.begin()
        try:
            self.one_change(word, rule)
        except DeduceFault:
            self.hold.throw_away()
            raise
        return self.keep()

    def one_change(self, word, rule):
        """Change one fact, or one rule; NoSuch for one that is there, or isn't."""
        if word == "+":
            self.hold.put(rule.name, row_of(rule))
        elif word == "-":
            self.hold.take(rule.name, row_of(rule))
        else:
            others = tuple([other for other in self.engine.rules if not same_rule(other, rule)])
            is_there = len(others) < len(self.engine.rules)
            if is_there == (word == "rule"):
                raise NoSuch(f"there, or not there: {rule.name}")
            self.hold.with_rules(others if is_there else others + (rule,))

    def hold_deed(self, word, rest):
        """Begin, keep, throw away, mark or go back."""
        if word in MARKS:
            named = one_word(rest)
            if word == "mark":
                self.hold.mark(named)
            else:
                self.hold.go_back(named)
            return ("done",)
        if rest != "":
            raise BadSign(f"behind {word}: {rest}")
        if word == "keep":
            return self.keep()
        if word == "begin":
            self.hold.begin()
        else:
            self.hold.throw_away()
        return ("done",)

    def keep(self):
        """Keep a transaction, write it to the log, tell the watches' news."""
        based = self.hold.based()
        turned = rules_written(self.hold.rules) != rules_written(self.engine.rules)
        changes, news = self.hold.keep()
        if turned or not based.is_bare():
            self.log.write(self.engine.rules if turned else None, based)
        lines = [f"kept {len(changes.names())}"]
        for word, came, went in news:
            lines.extend([f"{word} + {said}" for said in told_rows(came)])
            lines.extend([f"{word} - {said}" for said in told_rows(went)])
        return tuple(lines)

    def answer(self, rest):
        """Return a question's rows, the names first."""
        names, rows = asked(self.engine, question_text(rest))
        return (" ".join(names),) + told_rows(rows)

    def set_bound(self, rest):
        """Set a bound by what stands behind its first sign; return its number, told."""
        number = self.bounds.set_bound(bound_of("! " + rest).rule.body, self.engine)
        return (f"bound {number}",)

    def set_watch(self, rest):
        """Set a watch by a word and a question; return its rows, told."""
        word, text = first_word(rest)
        return told_rows(self.watches.set_watch(one_word(word), text, self.engine))

    def why(self, rest):
        """Return why a row is told, a line each, the deeper the more blanks; what is nearest where it isn't."""
        rule = read_rule(rest)
        name, row = rule.name, row_of(rule)
        if self.engine.has(name, row):
            return tuple(why_lines(ground(self.engine, name, row), ""))
        return tuple([f"not: rule {number} up to {many}" for number, many in nearest(self.engine, name, row)])

    def save(self):
        """Return the engine saved; BadDeed in a transaction."""
        if self.hold.is_open():
            raise BadDeed("a transaction has begun")
        return saved(self.engine)


def refused(why):
    """Return the lines that answer what is refused."""
    return (f"error: {why}",)


def why_lines(one, blanks):
    """Return a ground's lines, blanks, a text, ahead of each, two more for its parts."""
    lines = []
    # Grounds may be higher than calls may be deep.
    left = [(one, blanks)]
    while left != []:
        here, ahead = left.pop()
        by = "fact" if here.number is None else f"rule {here.number}"
        lines.append(f"{ahead}{fact_text(here.name, here.row)} {by}")
        left.extend([(part, ahead + "  ") for part in reversed(here.parts)])
    return lines


def question_text(rest):
    """Return a question's text by its body, which may lack the point."""
    signs = cut(rest)
    if signs == () or not signs[-1].is_mark("."):
        # A remark may stand at the body's end: the point stands in a row of its own.
        return f"?- {rest}\n."
    return f"?- {rest}"


def first_word(line):
    """Return (first word, what is behind it), blanks at both ends gone."""
    said = line.strip(WHITE)
    end = 0
    while end < len(said) and said[end] not in WHITE:
        end += 1
    return said[:end], said[end:].strip(WHITE)


def one_word(rest):
    """Return what is just one word; BadSign for more or none."""
    word, behind = first_word(rest)
    if word == "" or behind != "":
        raise BadSign(f"not one word: {rest}")
    return word


def told_row(row):
    """Return a row's values as they are written, a comma and a blank between."""
    return ", ".join([told_value(value) for value in row])


def told_rows(rows):
    """Return rows as they are written, a line each."""
    return tuple([told_row(row) for row in rows])


def from_log(text):
    """Return a session of the engine that a log's text makes, its log the whole transactions of it; BadStore."""
    session = Session(replayed(text))
    for block in blocks_of(text):
        session.log.take_on(block.rules, block.steps)
    return session


def from_save(text):
    """Return a session of a saved engine, its log one transaction that makes it; BadStore."""
    session = Session(restored(text))
    session.log = as_block(session.engine)
    return session


def rules_told(session):
    """Return a session's rules as they are written."""
    return rules_written(session.engine.rules)
