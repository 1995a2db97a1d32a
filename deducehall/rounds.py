"""Rounds: what a ring of names tells, worked out round by round from what is below it."""

from deducehall.joins import Views, heads, solutions
from deducehall.plans import plan
from deducehall.stores import Relation, Store
from deducehall.sums import summed_rows


def sizes_of(store, rule):
    """Return a table of the names a rule asks to how many rows they have."""
    return {name: store.of(name).size() for name in rule.asked("pos") + rule.asked("neg")}


def all_solutions(rule, views, start=None, first=None):
    """Return all bindings under which a rule's body holds, from a binding on, by a plan with one part first if told."""
    given = () if start is None else tuple(start)
    order = plan(rule, sizes_of(views.store, rule), first, given).order
    return solutions(rule, order, views, start)


def whole(rule, store):
    """Return all rows that a rule tells over a store."""
    bounds = all_solutions(rule, Views(store))
    return heads(rule, bounds) if rule.summed is None else summed_rows(rule, bounds)


def ring_rules(rules, ring):
    """Return the rules that tell a name of a ring, in order."""
    return [rule for rule in rules if rule.name in ring]


def asks_ring(rule, ring):
    """Tell whether a rule asks for rows of a ring's names."""
    return any([name in ring for name in rule.asked("pos")])


def put_all(store, told):
    """Put (name, row) pairs in; return those that are new."""
    fresh = []
    for name, row in told:
        if store.of(name).add(row):
            fresh.append((name, row))
    return fresh


def based_rows(ring, base):
    """Return the (name, row) pairs that a base has of a ring's names."""
    return [(name, row) for name in ring for row in base.of(name).look((), ())]


def by_names(ring, told):
    """Return a table of a ring's names to the rows that (name, row) pairs have of each."""
    table = {name: [] for name in ring}
    for name, row in told:
        table[name].append(row)
    return table


def told_once(rules, store):
    """Return the (name, row) pairs that rules tell over a store as it is."""
    return [(rule.name, row) for rule in rules for row in whole(rule, store)]


def plain_rounds(rules, ring, base, store):
    """Fill a ring's names in a store, all rules in each round till nothing is new; return how many told more."""
    put_all(store, based_rows(ring, base))
    own = ring_rules(rules, ring)
    many = 0
    while put_all(store, told_once(own, store)) != []:
        many += 1
    return many


def fresh_rows(rule, ring, store, news):
    """Return the rows that a rule tells by way of at least one row that was new in the last round."""
    found = {}
    for number, part in enumerate(rule.body):
        if part.kind == "pos" and part.name in ring and len(news.get(part.name, ())) > 0:
            views = Views(store, {number: Relation(news[part.name])})
            for row in heads(rule, all_solutions(rule, views, None, number)):
                found[row] = True
    return list(found)


def fresh_round(rules, ring, store, news):
    """Put in what rules tell by way of rows that were new; return a table of the ring's names to what is new now."""
    told = [(rule.name, row) for rule in rules for row in fresh_rows(rule, ring, store, news)]
    return by_names(ring, put_all(store, told))


def has_rows(table):
    """Tell whether a table of names to rows has any row."""
    return any([len(rows) > 0 for rows in table.values()])


def first_rows(rules, ring, base, store):
    """Return a table of a ring's names to the rows that are there ahead of all rounds, put in."""
    put_all(store, based_rows(ring, base))
    put_all(store, told_once([rule for rule in ring_rules(rules, ring) if not asks_ring(rule, ring)], store))
    return {name: store.of(name).look((), ()) for name in ring}


def quick_rounds(rules, ring, base, store):
    """Fill a ring's names in a store by way of new rows in each round; return how many rounds went by new rows."""
    news = first_rows(rules, ring, base, store)
    own = [rule for rule in ring_rules(rules, ring) if asks_ring(rule, ring)]
    many = 0
    while has_rows(news):
        news = fresh_round(own, ring, store, news)
        many += 1
    return many


def model(rules, order, base):
    """Return the store that rules tell over a base, ring by ring in an order."""
    store = outside(order, base)
    for ring in order:
        quick_rounds(rules, ring, base, store)
    return store


def plain_model(rules, order, base):
    """Return the same, worked out with all rules in each round."""
    store = outside(order, base)
    for ring in order:
        plain_rounds(rules, ring, base, store)
    return store


def outside(order, base):
    """Return a store of the base's rows of names that stand in no ring of an order."""
    inside = {name: True for ring in order for name in ring}
    store = Store()
    for name in base.names():
        if name not in inside:
            store.relations[name] = base.of(name).twin()
    return store
