"""Joins: all bindings under which a body holds, with a view of its own for each part."""

from deducehall.rules import reckoned
from deducehall.safety import needs, shared
from deducehall.terms import filled, matched, pattern, value_key


class Views:
    """Which relation each part is asked of: a store's, but for those in own, a table of parts' numbers to relations."""

    def __init__(self, store, own=None):
        self.store = store
        self.own = {} if own is None else own

    def of(self, rule, number):
        """Return the relation that a part is asked of."""
        if number in self.own:
            return self.own[number]
        return self.store.of(rule.body[number].name)


def holds_between(sign, one, other):
    """Tell whether a sign holds between two values: numbers stand ahead of words."""
    left, right = value_key(one), value_key(other)
    if sign == "<":
        return left < right
    if sign == "<=":
        return left <= right
    return (left == right) == (sign == "=")


def fitting(terms, bound, relation):
    """Return the bindings that a relation's rows make of one by terms."""
    places, values = pattern(terms, bound)
    if len(places) == len(terms):
        return [dict(bound)] if relation.has(values) else []
    found = [matched(terms, row, bound) for row in relation.look(places, values)]
    return [wider for wider in found if wider is not None]


def none_there(rule, number, bound, relation):
    """Tell whether no row of a relation fits a not, places of names that stand nowhere else left open."""
    # A name left open stays open, whatever value the binding has for it.
    known = {name: bound[name] for name in needs(rule, number) if name in bound}
    return fitting(rule.body[number].terms, known, relation) == []


def sign_holds(part, bound):
    """Tell whether a part that holds two terms against each other holds under a binding."""
    return holds_between(part.name, part.terms[0].under(bound), part.terms[1].under(bound))


def reckoned_on(part, bound):
    """Return the binding widened by what a part reckons, None where that is nothing or not the value it has."""
    value = reckoned(part.name, part.terms[1].under(bound), part.terms[2].under(bound))
    return None if value is None else matched(part.terms[:1], (value,), bound)


def widened(rule, number, bound, views):
    """Return all bindings that a part makes of one."""
    part = rule.body[number]
    if part.kind == "pos":
        return fitting(part.terms, bound, views.of(rule, number))
    if part.kind == "let":
        wider = reckoned_on(part, bound)
        return [] if wider is None else [wider]
    if part.kind == "neg":
        holds = none_there(rule, number, bound, views.of(rule, number))
    else:
        holds = sign_holds(part, bound)
    return [dict(bound)] if holds else []


def solutions(rule, order, views, start=None):
    """Return all bindings under which a rule's parts hold, taken in an order, from a binding on."""
    bounds = [{} if start is None else dict(start)]
    for number in order:
        wider = []
        for bound in bounds:
            wider.extend(widened(rule, number, bound, views))
        bounds = wider
    return bounds


def heads(rule, bounds):
    """Return the rows that a rule's head tells under bindings, each once."""
    return list({filled(rule.terms, bound): True for bound in bounds})


def told_names(rule):
    """Return the names that make a binding of a rule one of its own: all but those that stand in one not alone."""
    left_open = {}
    for number, part in enumerate(rule.body):
        if part.kind == "neg":
            for name in part.names():
                if not shared(rule, number, name):
                    left_open[name] = True
    return tuple([name for name in rule.names() if name not in left_open])


def as_key(rule, bound):
    """Return a binding's values of a rule's own names, in order."""
    return tuple([bound[name] for name in told_names(rule)])
