"""Costs: the cheapest way to each row, facts at their prices and rules at theirs."""

from heapq import heappop, heappush

from deducehall.errors import BadSize, NoSuch
from deducehall.grounds import asked_rows, grown, parts_first, ways_told
from deducehall.joins import Views
from deducehall.rounds import all_solutions, whole
from deducehall.rules import told_by
from deducehall.terms import bound_key, filled, row_key


class Prices:
    """What facts and rules cost: nought for a fact that has none, one for a rule."""

    def __init__(self):
        self.of_facts = {}
        self.of_rules = {}

    def price_fact(self, name, row, price):
        """Give a fact a price; BadSize for one below nought."""
        if price < 0:
            raise BadSize(f"a price below nought: {price}")
        self.of_facts[(name, row)] = price

    def price_rule(self, number, price):
        """Give a rule a price by its number; BadSize for one below one."""
        if price < 1:
            raise BadSize(f"a price below one: {price}")
        self.of_rules[number] = price

    def fact(self, name, row):
        """Return a fact's price."""
        return self.of_facts.get((name, row), 0)

    def rule(self, number):
        """Return a rule's price."""
        return self.of_rules.get(number, 1)


def bound_ways(engine, name, row):
    """Return (rule's number, binding) of each way a rule tells a row, by rules, the least binding first."""
    ways = []
    for number in told_by(engine.rules, name):
        ways.extend([(number, bound) for bound in ways_told(engine.rules[number], row, engine.store)])
    return ways


def all_ways(engine, name, row):
    """Return (rule's number, (name, row) pairs asked, as in the body) of each way an unsummed rule tells a row."""
    rules = engine.rules
    ways = bound_ways(engine, name, row)
    return [(number, asked_rows(rules[number], bound)) for number, bound in ways if rules[number].summed is None]


def summed_ways(engine, name, row):
    """Return (rule's number, nothing) of each summed rule that tells a row."""
    ways = bound_ways(engine, name, row)
    return [(number, ()) for number, _ in ways if engine.rules[number].summed is not None]


def way_table(engine):
    """Return a table of (name, row) to its ways."""
    table = {(name, row): [] for name, rows in engine.shown() for row in rows}
    for number, rule in enumerate(engine.rules):
        for row, asked in told_ways(rule, engine.store):
            table[(rule.name, row)].append((number, asked))
    return table


def told_ways(rule, store):
    """Return (row told, (name, row) pairs asked) of each way of a rule over a store, the least binding first."""
    if rule.summed is not None:
        return [(row, ()) for row in whole(rule, store)]
    bounds = sorted(all_solutions(rule, Views(store)), key=bound_key)
    return [(filled(rule.terms, bound), asked_rows(rule, bound)) for bound in bounds]


def cost_of(way, prices, table):
    """Return what a way costs by costs known so far, None where a row's isn't."""
    number, asked = way
    known = [table[key] for key in asked if key in table]
    return prices.rule(number) + sum(known) if len(known) == len(asked) else None


def costs(engine, prices):
    """Return a table of (name, row) to its least cost: each row asked for paid as often as it is asked."""
    ways = way_table(engine)
    keys = list(ways)
    numbers = {key: number for number, key in enumerate(keys)}
    queue = []
    for name, row in engine.facts():
        heappush(queue, (prices.fact(name, row), numbers[(name, row)]))
    for key in ways:
        for way in ways[key]:
            if way[1] == ():
                heappush(queue, (prices.rule(way[0]), numbers[key]))
    askers = askers_of(ways)
    table = {}
    while queue != []:
        # A rule costs one at least: so what comes cheapest off the queue can't come cheaper by another way.
        least, number = heappop(queue)
        if keys[number] not in table:
            table[keys[number]] = least
            for key, way in askers.get(keys[number], ()):
                paid = cost_of(way, prices, table)
                if paid is not None:
                    heappush(queue, (paid, numbers[key]))
    return table


def askers_of(ways):
    """Return a table of each row asked to the (row told, way) pairs that ask it."""
    askers = {}
    for key in ways:
        for way in ways[key]:
            for asked in {other: True for other in way[1]}:
                askers.setdefault(asked, []).append((key, way))
    return askers


def cost(engine, prices, name, row):
    """Return a row's least cost; NoSuch for one not told."""
    if not engine.has(name, row):
        raise NoSuch(f"not told: {name}")
    return costs(engine, prices)[(name, row)]


def cheapest(engine, prices, name, row, table=None):
    """Return a row's cheapest ground: a fact where that costs no more, else the first way of least cost; NoSuch."""
    if not engine.has(name, row):
        raise NoSuch(f"not told: {name}")
    known = costs(engine, prices) if table is None else table

    def chosen(key):
        """Return (number, binding) of a row's cheapest way, (None, nothing) for a fact."""
        return cheapest_way(engine, prices, known, key[0], key[1])

    return grown(engine.rules, (name, row), chosen)


def cheapest_way(engine, prices, table, name, row):
    """Return (number, binding) of a row's cheapest way by costs known, (None, nothing) for a fact; NoSuch for none."""
    best = None
    least = None
    for number, bound in bound_ways(engine, name, row):
        found = cost_of((number, asked_rows(engine.rules[number], bound)), prices, table)
        if found is not None and (least is None or found < least):
            best, least = (number, bound), found
    if engine.base.has(name, row) and (least is None or prices.fact(name, row) <= least):
        return None, {}
    if best is None:
        raise NoSuch(f"no way: {name}")
    return best


def price_of(ground, prices):
    """Return what a ground costs: its facts and rules at their prices, each as often as it stands there."""
    paid = {}
    for one in parts_first(ground):
        own = prices.fact(one.name, one.row) if one.number is None else prices.rule(one.number)
        paid[one] = own + sum([paid[part] for part in one.parts])
    return paid[ground]


def ranked(engine, prices, name):
    """Return (cost, row) for each row of a name, the cheapest first, then in order."""
    table = costs(engine, prices)
    return tuple(sorted([(table[(name, row)], row) for row in engine.rows(name)], key=rank_key))


def rank_key(pair):
    """Return what (cost, row) pairs are ordered by."""
    return pair[0], row_key(pair[1])
