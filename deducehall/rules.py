"""Rules: heads, literals, sums, variables, plain names and likeness."""

from deducehall.errors import BadRule
from deducehall.terms import is_number, names_in, renamed, shown_all

SUMS = ("count", "sum", "least", "most")
SIGNS = ("<", "<=", "=", "!=")
DEEDS = ("+", "-", "*")
MOST = 999999999999999999


class Literal:
    """One part of a body: a name asked ("pos", "neg"), two terms held against each other, or one reckoned."""

    def __init__(self, kind, name, terms):
        self.kind = kind
        self.name = name
        self.terms = tuple(terms)
        self.own = names_in(self.terms)

    def names(self):
        """Return the variables' names in order."""
        return self.own

    def shown(self):
        """Return (kind, name, terms shown)."""
        return self.kind, self.name, shown_all(self.terms)

    def with_names(self, names):
        """Return it with names changed by a table."""
        return Literal(self.kind, self.name, renamed(self.terms, names))


class Rule:
    """A head, with one place of it a sum perhaps, and a body."""

    def __init__(self, name, terms, body, summed=None):
        self.name = name
        self.terms = tuple(terms)
        self.body = tuple(body)
        self.summed = None if summed is None else tuple(summed)
        self.stands = how_often([names_in(self.terms)] + [part.names() for part in self.body])

    def names(self):
        """Return all variables' names, the head's first, in order."""
        return tuple(self.stands)

    def asked(self, kind):
        """Return the names that literals of a kind ask, in order, each once."""
        names = {}
        for part in self.body:
            if part.kind == kind:
                names[part.name] = True
        return tuple(names)

    def reckons(self):
        """Tell whether a literal reckons a new value."""
        return any([part.kind == "let" for part in self.body])

    def shown(self):
        """Return (name, head's terms, summed, literals) shown."""
        return self.name, shown_all(self.terms), self.summed, tuple([part.shown() for part in self.body])

    def with_names(self, names):
        """Return it with names changed by a table."""
        body = [part.with_names(names) for part in self.body]
        return Rule(self.name, renamed(self.terms, names), body, self.summed)

    def plain(self):
        """Return it with its variables called V0, V1 and on, in order."""
        return self.with_names({name: f"V{number}" for number, name in enumerate(self.names())})

    def group(self):
        """Return the head's places that are not summed."""
        return tuple([place for place in range(len(self.terms)) if self.summed is None or place != self.summed[0]])


def how_often(rows):
    """Return a table of the names in rows of names, in order, to how many of the rows they stand in."""
    often = {}
    for row in rows:
        for name in row:
            often[name] = often.get(name, 0) + 1
    return often


def pos(name, terms):
    """Return a literal that asks for a row."""
    return Literal("pos", name, terms)


def neg(name, terms):
    """Return a literal that asks for no row."""
    return Literal("neg", name, terms)


def held(sign, one, other):
    """Return a literal that holds two terms against each other; BadRule for another sign."""
    if sign not in SIGNS:
        raise BadRule(f"no sign to hold terms by: {sign}")
    return Literal("cmp", sign, (one, other))


def let(target, deed, one, other):
    """Return a literal that reckons a variable out of two terms; BadRule for another deed or no variable."""
    if deed not in DEEDS or not target.is_variable():
        raise BadRule(f"no reckoning: {deed}")
    return Literal("let", deed, (target, one, other))


def summed_rule(name, terms, body, place, kind):
    """Return a rule with a sum at a place of its head; BadRule for another kind, place or no variable there."""
    if kind not in SUMS or not 0 <= place < len(terms) or not terms[place].is_variable():
        raise BadRule(f"no sum: {kind} at place {place}")
    return Rule(name, terms, body, (place, kind))


def same_rule(one, other):
    """Tell whether two rules are one but for their variables' names."""
    return one.plain().shown() == other.plain().shown()


def without_repeats(rules):
    """Return rules without those that are one with an earlier one but for names."""
    firsts = {}
    for rule in rules:
        firsts.setdefault(rule.plain().shown(), rule)
    return tuple(firsts.values())


def told_by(rules, name):
    """Return the numbers of the rules that tell a name, in order."""
    return tuple([number for number, rule in enumerate(rules) if rule.name == name])


def names_of(rules):
    """Return all names that rules tell or ask, in order of the letters."""
    names = {}
    for rule in rules:
        for name in (rule.name,) + rule.asked("pos") + rule.asked("neg"):
            names[name] = True
    return tuple(sorted(names))


def reckoned(deed, one, other):
    """Return what a deed makes of two numbers, None where one is a word or more than eighteen figures come of it."""
    if not is_number(one) or not is_number(other):
        return None
    if deed == "+":
        return bounded(one + other)
    return bounded(one - other) if deed == "-" else bounded(one * other)


def bounded(number):
    """Return a number, None for one of more than eighteen figures."""
    return number if -MOST <= number <= MOST else None
