"""Grounds: why a row is told, a small checker of grounds, and tables that ground a whole model."""

from deducehall.errors import BadGround, NoSuch
from deducehall.joins import Views, none_there, reckoned_on, sign_holds, told_names, widened
from deducehall.layers import rings
from deducehall.plans import plan
from deducehall.redo import head_bound, ways_to
from deducehall.rounds import (
    all_solutions, based_rows, by_names, fresh_round, has_rows, put_all, ring_rules, sizes_of, told_once, whole,
)
from deducehall.rules import told_by
from deducehall.stores import Store, picked, store_of
from deducehall.sums import summed_rows
from deducehall.terms import bound_key, filled, matched


class Ground:
    """A row, the rule that tells it (None for a fact), its binding (a table), a list of grounds of the rows it asks."""

    def __init__(self, name, row, number, bound, parts):
        self.name = name
        self.row = row
        self.number = number
        self.bound = bound
        self.parts = parts

    def size(self):
        """Return how many rows it grounds, each as often as it stands there."""
        sizes = {}
        for one in parts_first(self):
            sizes[one] = 1 + sum([sizes[part] for part in one.parts])
        return sizes[self]

    def height(self):
        """Return how many rows its longest way down has."""
        heights = {}
        for one in parts_first(self):
            heights[one] = 1 + max([heights[part] for part in one.parts], default=0)
        return heights[self]

    def shown(self):
        """Return (name, row, number, (name, value) pairs by names, parts shown)."""
        shown = {}
        for one in parts_first(self):
            pairs = tuple([(name, one.bound[name]) for name in sorted(one.bound)])
            shown[one] = one.name, one.row, one.number, pairs, tuple([shown[part] for part in one.parts])
        return shown[self]


def parts_first(one):
    """Return a ground and all it stands on, each once, parts ahead of what stands on them; BadGround for a ring."""
    # Grounds may be higher than calls may be deep, and one may stand in many places.
    done = {}
    begun = {}
    left = [one]
    while left != []:
        here = left[-1]
        if here in begun:
            done[here] = True
            left.pop()
            continue
        begun[here] = True
        for part in here.parts:
            if part in begun and part not in done:
                raise BadGround(f"stands on itself: {part.name}")
            if part not in done:
                left.append(part)
    return list(done)


def ranks(engine):
    """Return a table of (name, row) to the round of its ring in which it is told: nought for facts."""
    table = {(name, row): 0 for name, row in engine.facts()}
    for ring in engine.order:
        rank_ring(engine, ring, table)
    return table


def rank_ring(engine, ring, table):
    """Put into a table in which round each of a ring's rows is told that is no fact."""
    rules = ring_rules(engine.rules, ring)
    store = Store()
    # What is below stands as it is; the ring's own rows come round by round.
    store.relations = {name: engine.store.of(name) for name in engine.store.names() if name not in ring}
    put_all(store, based_rows(ring, engine.base))
    news = by_names(ring, put_all(store, told_once(rules, store)))
    rank = 1
    while has_rows(news):
        for name in ring:
            for row in news[name]:
                table[(name, row)] = rank
        news = fresh_round(rules, ring, store, news)
        rank += 1


def ring_of(engine, name):
    """Return the ring in which a name stands, itself alone for one in none."""
    for ring in engine.order:
        if name in ring:
            return ring
    return (name,)


def best_way(engine, table, name, row):
    """Return (number, binding) of the first rule, and its least binding, by which a row stands on lower ranks."""
    ring = ring_of(engine, name)
    rank = table.get((name, row), 0)
    for number in told_by(engine.rules, name):
        rule = engine.rules[number]
        ways = ways_told(rule, row, engine.store)
        bounds = [bound for bound in ways if lower(rule, bound, ring, table, rank)]
        if bounds != []:
            return number, bounds[0]
    raise NoSuch(f"no way: {name}")


def ways_told(rule, row, store):
    """Return the bindings, the least first, by which a rule tells a row; a bare one for a summed rule that tells it."""
    if rule.summed is None:
        return sorted(ways_to(rule, row, store), key=bound_key)
    return [{}] if sum_tells(rule, row, store) else []


def sum_tells(rule, row, store):
    """Tell whether a summed rule tells a row over a store; only the row's own group is summed."""
    if len(row) != len(rule.terms):
        return False
    start = matched([rule.terms[place] for place in rule.group()], picked(row, rule.group()), {})
    return start is not None and row in summed_rows(rule, all_solutions(rule, Views(store), start))


def lower(rule, bound, ring, table, rank):
    """Tell whether a rule's rows asked within a ring stand lower than a rank under a binding."""
    return all([table.get(key, rank) < rank for key in asked_rows(rule, bound) if key[0] in ring])


def asked_rows(rule, bound):
    """Return the (name, row) pairs that a rule asks for under a binding, as in the body; none for a summed rule."""
    if rule.summed is not None:
        return ()
    return tuple([(part.name, filled(part.terms, bound)) for part in rule.body if part.kind == "pos"])


def ground(engine, name, row, table=None):
    """Return the ground of a row: a fact's, else by the first rule and least binding; NoSuch for one not told."""
    if not engine.has(name, row):
        raise NoSuch(f"not told: {name}")
    rounds = ranks(engine) if table is None else table

    def chosen(key):
        """Return (number, binding) of a row's way, (None, nothing) for a fact."""
        return (None, {}) if engine.base.has(key[0], key[1]) else best_way(engine, rounds, key[0], key[1])

    return grown(engine.rules, (name, row), chosen)


def grown(rules, start, chosen):
    """Return the ground of a (name, row) pair by ways that a function chooses, one ground for each row in it."""
    ways = {}
    asked = {}
    left = [start]
    while left != []:
        key = left.pop()
        if key not in ways:
            number, bound = chosen(key)
            ways[key] = Ground(key[0], key[1], number, bound, [])
            asked[key] = () if number is None else asked_rows(rules[number], bound)
            left.extend(asked[key])
    for key in asked:
        one = ways[key]
        one.parts = [ways[other] for other in asked[key]]
    return ways[start]


def check_ground(rules, facts, told, one):
    """Return True for a ground over rules and facts, a store told for nots and sums; BadGround for another."""
    known = {(name, row): True for name, row in facts}
    for here in parts_first(one):
        if here.number is None:
            check_fact(known, here)
        else:
            check_step(rules, told, here)
    return True


def check_fact(known, one):
    """Check a fact's ground over a table of facts; BadGround."""
    if (one.name, one.row) not in known or len(one.parts) > 0:
        raise BadGround(f"no fact: {one.name}")


def check_step(rules, told, one):
    """Check a ground by a rule, but for the grounds of its parts; BadGround."""
    if not 0 <= one.number < len(rules) or rules[one.number].name != one.name:
        raise BadGround(f"no rule for it: {one.name}")
    rule = rules[one.number]
    if rule.summed is not None:
        # A summed rule's ground has the bare binding and no parts.
        if one.bound != {} or len(one.parts) > 0 or not sum_tells(rule, one.row, told):
            raise BadGround(f"no sum: {one.name}")
        return
    if any([name not in one.bound for name in needed(rule)]):
        raise BadGround(f"not bound: {one.name}")
    if filled(rule.terms, one.bound) != one.row:
        raise BadGround(f"another row: {one.name}")
    check_body(told, one, rule)


def needed(rule):
    """Return the names that a binding of a rule must have."""
    return {name: True for name in told_names(rule)}


def check_parts(rules, facts, told, one, rule):
    """Check a ground's parts and tests one by one; BadGround."""
    check_body(told, one, rule)
    for part in one.parts:
        check_ground(rules, facts, told, part)


def check_body(told, one, rule):
    """Check that a ground's parts are of the rows asked and that tests, reckonings and nots hold; BadGround."""
    asked = asked_rows(rule, one.bound)
    if [(part.name, part.row) for part in one.parts[:len(asked)]] != list(asked):
        raise BadGround(f"no part for a row asked: {one.name}")
    for number, part in enumerate(rule.body):
        if part.kind == "neg" and not none_there(rule, number, one.bound, told.of(part.name)):
            raise BadGround(f"is there: {part.name}")
        if part.kind == "cmp" and not sign_holds(part, one.bound):
            raise BadGround(f"doesn't hold: {one.name}")
        if part.kind == "let" and reckoned_on(part, one.bound) is None:
            raise BadGround(f"isn't reckoned: {one.name}")
    if len(one.parts) > len(asked):
        raise BadGround(f"more parts: {one.name}")


def model_table(engine):
    """Return (name, row, rank) for each row told, in order: what grounds the whole model."""
    table = ranks(engine)
    return tuple([(name, row, table[(name, row)]) for name, rows in engine.shown() for row in rows])


def stands(rule, row, ring, store, table, rank):
    """Tell whether a rule tells a row over a store by rows of a ring that stand lower."""
    return any([lower(rule, bound, ring, table, rank) for bound in ways_told(rule, row, store)])


def claimed(claims):
    """Return a table of (name, row) to the rank that claims give it; BadGround for a row twice."""
    table = {}
    for name, row, rank in claims:
        if (name, row) in table:
            raise BadGround(f"twice: {name}")
        table[(name, row)] = rank
    return table


def check_model(rules, facts, claims):
    """Return the store that claims ground to be all that rules and facts tell; BadGround for others."""
    table = claimed(claims)
    store = store_of(list(table))
    known = {(name, row): True for name, row in facts}
    if any([fact not in table for fact in known]):
        raise BadGround("a fact lacks")
    for rule in rules:
        if any([not store.has(rule.name, row) for row in whole(rule, store)]):
            raise BadGround(f"a row lacks: {rule.name}")
    rings_by_name = {name: ring for ring in rings(rules) for name in ring}
    for name, row in table:
        if (name, row) not in known:
            own = [rules[number] for number in told_by(rules, name)]
            if not any([stands(rule, row, rings_by_name[name], store, table, table[(name, row)]) for rule in own]):
                raise BadGround(f"stands on nothing: {name}")
    return store


def nearest(engine, name, row):
    """Return (number, parts that hold together at most) for each rule that could tell a row, in its plan's order."""
    found = []
    for number in told_by(engine.rules, name):
        rule = engine.rules[number]
        start = head_bound(rule, row)
        if rule.summed is None and start is not None:
            found.append((number, held_together(rule, engine.store, start)))
    return tuple(found)


def held_together(rule, store, start):
    """Return how many parts of a rule's plan, from the first on, hold together from a binding on."""
    views = Views(store)
    bounds = [start]
    many = 0
    for number in plan(rule, sizes_of(store, rule), None, tuple(start)).order:
        bounds = [wider for bound in bounds for wider in widened(rule, number, bound, views)]
        if bounds == []:
            return many
        many += 1
    return many
