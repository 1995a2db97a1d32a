"""Kinds: how many places a name has, and what kinds of values may come to stand there."""

from deducehall.errors import BadKind
from deducehall.terms import is_number

ALL_KINDS = "nw"


class Places:
    """Names and how many places each has."""

    def __init__(self):
        self.many = {}

    def meet(self, name, count):
        """Tell a name with a count of places; BadKind for another count than before."""
        if self.many.get(name, count) != count:
            raise BadKind(f"{name} has {self.many[name]} places, not {count}")
        self.many[name] = count

    def meet_rule(self, rule):
        """Tell all names of a rule; BadKind changes nothing."""
        # The names meet in a table of their own first: a refusal, even of two of them, keeps none.
        whole = Places()
        whole.many = dict(self.many)
        whole.meet(rule.name, len(rule.terms))
        for part in rule.body:
            if part.kind == "pos" or part.kind == "neg":
                whole.meet(part.name, len(part.terms))
        self.many = whole.many

    def count_of(self, name):
        """Return how many places a name has, None where it isn't told."""
        return self.many.get(name)

    def shown(self):
        """Return (name, count) pairs in order."""
        return tuple([(name, self.many[name]) for name in sorted(self.many)])


def places_of(rules, facts):
    """Return the places of all names in rules and facts; BadKind for two counts."""
    places = Places()
    for rule in rules:
        places.meet_rule(rule)
    for name, row in facts:
        places.meet(name, len(row))
    return places


def kind_of(value):
    """Return "n" for a number, "w" for a word."""
    return "n" if is_number(value) else "w"


def joined(one, other):
    """Return kinds of both."""
    return "".join([kind for kind in ALL_KINDS if kind in one or kind in other])


def both(one, other):
    """Return kinds that are in both."""
    return "".join([kind for kind in ALL_KINDS if kind in one and kind in other])


def start_kinds(facts, rules):
    """Return a table of (name, place) to the kinds that facts tell there."""
    table = {}
    for name, count in places_of(rules, facts).shown():
        for place in range(count):
            table[(name, place)] = ""
    for name, row in facts:
        join_kinds(table, name, [kind_of(value) for value in row])
    return table


def join_kinds(table, name, found):
    """Put kinds, place by place, to those of a name; tell whether any is new."""
    news = False
    for place, kinds in enumerate(found):
        before = table[(name, place)]
        table[(name, place)] = joined(before, kinds)
        news = news or table[(name, place)] != before
    return news


def name_kinds(rule, table):
    """Return a table of a rule's names to the kinds their places let through."""
    found = {name: ALL_KINDS for name in rule.names()}
    for part in rule.body:
        for place, term in enumerate(part.terms):
            if term.is_variable():
                found[term.name] = both(found[term.name], kinds_at(part, place, table))
    return found


def kinds_at(part, place, table):
    """Return the kinds that a place of a part lets through: only rows asked and reckonings choose."""
    if part.kind == "pos":
        return table.get((part.name, place), "")
    return "n" if part.kind == "let" else ALL_KINDS


def lets_through(rule, table, found):
    """Tell whether each part of a rule's body may hold by kinds alone."""
    for part in rule.body:
        for place, term in enumerate(part.terms):
            kinds = found[term.name] if term.is_variable() else kind_of(term.value)
            if both(kinds, kinds_at(part, place, table)) == "":
                return False
    return True


def head_kinds(rule, found):
    """Return the kinds that a rule's head may tell, place by place."""
    kinds = [found[term.name] if term.is_variable() else kind_of(term.value) for term in rule.terms]
    if rule.summed is not None and rule.summed[1] in ("count", "sum"):
        kinds[rule.summed[0]] = "n"
    return kinds


def least_table(rules, facts):
    """Return the least table of (name, place) to kinds that facts and rules let come about."""
    table = start_kinds(facts, rules)
    news = True
    while news:
        news = False
        for rule in rules:
            found = name_kinds(rule, table)
            if lets_through(rule, table, found):
                news = join_kinds(table, rule.name, head_kinds(rule, found)) or news
    return table


def kinds_told(rules, facts):
    """Return (name, kinds place by place) in order: the least table that facts and rules let come about."""
    table = least_table(rules, facts)
    pairs = places_of(rules, facts).shown()
    return tuple([(name, tuple([table[(name, place)] for place in range(count)])) for name, count in pairs])


def never(rules, facts):
    """Return the numbers of the rules that can never tell a row, by kinds alone."""
    table = least_table(rules, facts)
    numbers = []
    for number, rule in enumerate(rules):
        if not lets_through(rule, table, name_kinds(rule, table)):
            numbers.append(number)
    return tuple(numbers)
