"""Wells: what surely holds and what may hold by rules that ask themselves by a not."""

from deducehall.errors import BadLayer
from deducehall.joins import Views, heads
from deducehall.rounds import all_solutions, put_all
from deducehall.stores import Relation, Store


def must_be_plain(rules):
    """Refuse with BadLayer rules with a sum or a reckoning."""
    for rule in rules:
        if rule.summed is not None or rule.reckons():
            raise BadLayer(f"summed or reckoned: {rule.name}")


def least_with(rules, base, nots):
    """Return the least store that has a base and what rules tell, their nots asked of another store."""
    must_be_plain(rules)
    store = base.twin()
    told = [(rule.name, row) for rule in rules for row in told_with(rule, store, nots)]
    news = rows_by_names(put_all(store, told))
    while news != {}:
        told = [(rule.name, row) for rule in rules for row in told_by_news(rule, store, nots, news)]
        news = rows_by_names(put_all(store, told))
    return store


def denied(rule, nots):
    """Return a table of a rule's nots, by their numbers, to the relations of the store that they are asked of."""
    return {number: nots.of(part.name) for number, part in enumerate(rule.body) if part.kind == "neg"}


def told_with(rule, store, nots):
    """Return the rows that a rule tells over a store, its nots asked of another."""
    return heads(rule, all_solutions(rule, Views(store, denied(rule, nots))))


def told_by_news(rule, store, nots, news):
    """Return the rows that a rule tells by way of rows that were new, its nots asked of another store."""
    found = []
    for number, part in enumerate(rule.body):
        if part.kind == "pos" and part.name in news:
            views = Views(store, {**denied(rule, nots), number: Relation(news[part.name])})
            found.extend(heads(rule, all_solutions(rule, views, None, number)))
    return found


def rows_by_names(pairs):
    """Return a table of names to the rows that (name, row) pairs have of each."""
    table = {}
    for name, row in pairs:
        table.setdefault(name, []).append(row)
    return table


def grown(rules, base):
    """Return (sure, possible) stores of each turn, from nothing sure on, the first that stays last."""
    sure = Store()
    found = []
    while found == [] or sure.shown() != found[-1][0].shown():
        possible = least_with(rules, base, sure)
        found.append((sure, possible))
        sure = least_with(rules, base, possible)
    return found


def well(rules, base):
    """Return (what surely holds, what may hold but not surely) in order, name by name; BadLayer."""
    sure, possible = grown(rules, base)[-1]
    return sure.shown(), lacking(possible, sure)


def lacking(one, other):
    """Return (name, rows) of one store that another hasn't, in order."""
    found = []
    for name, rows in one.shown():
        left = tuple([row for row in rows if not other.has(name, row)])
        if left != ():
            found.append((name, left))
    return tuple(found)


def is_settled(rules, base):
    """Tell whether all that may hold surely holds."""
    return well(rules, base)[1] == ()


def is_stable(rules, base, store):
    """Tell whether a store is just what rules tell when their nots are asked of itself."""
    return least_with(rules, base, store).shown() == store.shown()


def stable(rules, base, most=6):
    """Return all stable stores, shown, in order: each choice of possible rows tried, for up to so many of them."""
    sure, possible = grown(rules, base)[-1]
    pairs = [(name, row) for name, rows in lacking(possible, sure) for row in rows]
    if len(pairs) > most:
        raise BadLayer(f"too many: {len(pairs)}")
    found = []
    for choice in choices(len(pairs)):
        store = sure.twin()
        put_all(store, [pairs[number] for number in choice])
        if is_stable(rules, base, store):
            found.append(store.shown())
    return tuple(found)


def choices(many):
    """Return all choices of numbers below one, none first, then by the last number."""
    found = [()]
    for number in range(many):
        found = found + [choice + (number,) for choice in found]
    return found


def turns(rules, base):
    """Return (sure, possible): how many rows are so at each turn."""
    return tuple([(sure.size(), possible.size()) for sure, possible in grown(rules, base)])
