"""Bounds: bodies that may never hold, and what breaks them."""

from deducehall.errors import Broken, NoSuch
from deducehall.queries import Question, asks_changed
from deducehall.readers import Clause, told_clause
from deducehall.rules import held, neg, pos
from deducehall.terms import var


class Bounds:
    """Bounds by numbers, from nought on in the order they were set."""

    def __init__(self):
        self.held = []

    def set_bound(self, body, engine):
        """Set a bound; return its number; Broken where it is broken now, BadRule for an unsafe one."""
        bound = Question(body)
        if bound.holds(engine):
            raise Broken("broken now")
        self.held.append(bound)
        return len(self.held) - 1

    def lift(self, number):
        """Lift a bound; its number stays bare; NoSuch."""
        if number not in self.shown():
            raise NoSuch(f"no bound: {number}")
        self.held[number] = None

    def broken(self, engine):
        """Return (number, its least answer) for each bound that is broken, in order."""
        return self.broken_of(self.shown(), engine)

    def broken_of(self, numbers, engine):
        """Return (number, its least answer) for each bound of some numbers that is broken."""
        found = [(number, self.held[number].first(engine)) for number in numbers]
        return tuple([pair for pair in found if pair[1] is not None])

    def check(self, engine):
        """Return True where no bound is broken; Broken."""
        found = self.broken(engine)
        if found != ():
            raise Broken(f"broken: {found[0][0]}")
        return True

    def touched(self, changes):
        """Return the numbers of bounds that ask a name with changes."""
        return tuple([number for number in self.shown() if asks_changed(self.held[number], changes)])

    def broken_by(self, engine, changes):
        """Return (number, its least answer) for each broken bound that asks a name with changes."""
        return self.broken_of(self.touched(changes), engine)

    def shown(self):
        """Return the numbers of the bounds that are set."""
        return tuple([number for number, bound in enumerate(self.held) if bound is not None])


def terms_at(count, called, first=0):
    """Return so many variables, called by a table of places to names, the others low strokes numbered from a first."""
    return [var(called.get(place, f"_{first + place}")) for place in range(count)]


def bound_text(body):
    """Return the text of a bound."""
    return told_clause(Clause("bound", None, body))


def only_one(name, places, count):
    """Return the texts of bounds that two rows of a name that agree at some places agree at each other one."""
    key = {place: f"K{place}" for place in places}
    texts = []
    for place in range(count):
        if place not in key:
            one = pos(name, terms_at(count, {**key, place: "A"}))
            other = pos(name, terms_at(count, {**key, place: "B"}, count))
            texts.append(bound_text([one, other, held("!=", var("A"), var("B"))]))
    return tuple(texts)


def stands_in(name, place, count, other, there, many):
    """Return the text of a bound that a value at a place of a name's rows stands at a place of another's."""
    denied = neg(other, terms_at(many, {there: "V"}, count))
    return bound_text([pos(name, terms_at(count, {place: "V"})), denied])
