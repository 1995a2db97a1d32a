"""Queries: bodies asked of an engine, and what they answer."""

from deducehall.errors import BadRule
from deducehall.joins import Views, heads
from deducehall.readers import read
from deducehall.rounds import all_solutions
from deducehall.rules import Rule
from deducehall.safety import check_rule
from deducehall.terms import bound_key, in_order, var

# The head that a question's rule needs; nothing asks for its name.
HEAD = "answer"


class Question:
    """A body and the names it tells of: all its own but low strokes', in order."""

    def __init__(self, body):
        self.told_of = names_told(body)
        self.rule = check_rule(Rule(HEAD, [var(name) for name in self.told_of], body))

    def answer(self, engine):
        """Return the rows of values of its names under which it holds, in order, each once."""
        return in_order(heads(self.rule, self.all_bounds(engine)))

    def all_bounds(self, engine):
        """Return all bindings under which it holds."""
        return all_solutions(self.rule, Views(engine.store))

    def holds(self, engine):
        """Tell whether it holds under any binding."""
        return self.all_bounds(engine) != []

    def first(self, engine):
        """Return (name, value) pairs of its least answer, None for none."""
        rows = self.answer(engine)
        return None if rows == () else tuple(zip(self.told_of, rows[0]))

    def asks(self):
        """Return the names of rows that it asks for or against, in order, each once."""
        return tuple({part.name: True for part in self.rule.body if part.kind in ("pos", "neg")})


def names_told(body):
    """Return the names that a body tells of: those that stand in nots alone, and low strokes', are left out."""
    names = {name: True for part in body if part.kind != "neg" for name in part.names()}
    return tuple([name for name in names_in_body(body) if name in names and name[:1] != "_"])


def names_in_body(body):
    """Return a body's names in order of their first places."""
    return list({name: True for part in body for name in part.names()})


def body_of(text, kind):
    """Return the body of a text's one clause of a kind; BadRule for another clause or several."""
    clauses = read(text)
    if len(clauses) != 1 or clauses[0].kind != kind:
        raise BadRule(f"not just one clause of the kind {kind}")
    return clauses[0].body


def asks_changed(one, changes):
    """Tell whether a question asks for or against a name with changes."""
    names = changes.names()
    return any([name in names for name in one.asks()])


def question(text):
    """Return the one question of a text; BadRule for another clause or several."""
    return Question(body_of(text, "ask"))


def bound_of(text):
    """Return the one bound of a text as a question; BadRule for another clause or several."""
    return Question(body_of(text, "bound"))


def asked(engine, text):
    """Return (names, rows) that a text's question answers."""
    found = question(text)
    return found.told_of, found.answer(engine)


def counted(engine, text):
    """Return how many rows a text's question answers."""
    return len(question(text).answer(engine))


def grouped(engine, text, many):
    """Return (first values, rows of the others) of an answer, by its first so many names (all of fewer), in order."""
    groups = {}
    for row in question(text).answer(engine):
        groups.setdefault(row[:many], []).append(row[many:])
    return tuple([(first, tuple(groups[first])) for first in groups])


def same_answers(one, other, engine):
    """Tell whether two questions answer the same rows, name by name as written."""
    return one.answer(engine) == other.answer(engine)


def bindings(engine, text):
    """Return all bindings of a text's question as tables, in order."""
    return sorted(question(text).all_bounds(engine), key=bound_key)
