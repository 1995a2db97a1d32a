"""Counts: names in no ring kept up by how many ways each row is told."""

from deducehall.errors import BadLayer, NoSuch
from deducehall.joins import Views, as_key
from deducehall.layers import links, reached
from deducehall.rounds import all_solutions, based_rows
from deducehall.safety import needs
from deducehall.stores import Before
from deducehall.sums import ledger_of
from deducehall.terms import filled, matched


class Count:
    """One name's rows with their ways, its rules (others are passed over), and ledgers for summed ones."""

    def __init__(self, name, rules):
        if name in reached(links(rules), name):
            raise BadLayer(f"in a ring: {name}")
        self.name = name
        self.rules = tuple([rule for rule in rules if rule.name == name])
        self.ways = {}
        self.ledgers = {}
        self.heard = names_heard([name], self.rules)

    def note(self, row, way):
        """Note a way more (1) or less (-1) to a row; return 1 where it came, -1 where it went, else 0; NoSuch."""
        before = self.ways_of(row)
        if before + way < 0:
            raise NoSuch(f"no way: {self.name}")
        if before + way == 0:
            del self.ways[row]
            return -1
        self.ways[row] = before + way
        return 1 if before == 0 else 0

    def ways_of(self, row):
        """Return how many ways a row is told, nought for none."""
        return self.ways.get(row, 0)

    def rows(self):
        """Return the rows with a way."""
        return list(self.ways)

    def count_all(self, store, base):
        """Count all ways over a store, the base's rows a way each; put the rows in."""
        self.ways = {}
        self.ledgers = {}
        told = [row for _, row in based_rows([self.name], base)]
        for number, rule in enumerate(self.rules):
            bounds = all_solutions(rule, Views(store))
            if rule.summed is None:
                told.extend([filled(rule.terms, bound) for bound in bounds])
            else:
                self.ledgers[number] = ledger_of(rule, bounds)
                told.extend(self.ledgers[number].rows())
        for row in told:
            self.note(row, 1)
            store.of(self.name).add(row)

    def keep_up(self, store, based, changes):
        """Take in a base's changes of the name, and changes below it that the store has; note what came and went."""
        steps = [(-1, row) for row in based.went(self.name)] + [(1, row) for row in based.came(self.name)]
        for number, rule in enumerate(self.rules):
            steps.extend(self.told_by(number, rule, changed_ways(rule, store, changes)))
        for way, row in steps:
            turn = self.note(row, way)
            if turn > 0:
                store.of(self.name).add(row)
            if turn < 0:
                store.of(self.name).drop(row)
            if turn != 0:
                changes.note(self.name, row, turn > 0)

    def told_by(self, number, rule, steps):
        """Return (way, row) pairs that a rule's changed bindings make, those that go first."""
        in_turn = [step for step in steps if step[0] < 0] + [step for step in steps if step[0] > 0]
        if rule.summed is None:
            return [(way, filled(rule.terms, bound)) for way, bound in in_turn]
        ledger = self.ledgers[number]
        before = {}
        for way, bound in in_turn:
            group = ledger.group_of(bound)
            if group not in before:
                before[group] = ledger.row_of(group)
            ledger.bring(bound, way)
        after = {group: ledger.row_of(group) for group in before}
        turned = [group for group in before if before[group] != after[group]]
        went = [(-1, before[group]) for group in turned if before[group] is not None]
        return went + [(1, after[group]) for group in turned if after[group] is not None]


def names_heard(names, rules):
    """Return a table of names to look out for: some names, and those that rules ask for or against."""
    heard = {name: True for name in names}
    for rule in rules:
        for name in rule.asked("pos") + rule.asked("neg"):
            heard[name] = True
    return heard


def each_once(rule, bounds):
    """Return bindings, each once by the values of the rule's own names."""
    firsts = {}
    for bound in bounds:
        firsts.setdefault(as_key(rule, bound), bound)
    return list(firsts.values())


def changed_ways(rule, store, changes):
    """Return (way, binding) pairs, each binding once, by which a body came to hold or ceased, over a changed store."""
    went = [(-1, bound) for bound in ceased(rule, store, changes)]
    return went + [(1, bound) for bound in begun(rule, store, changes)]


def ceased(rule, store, changes):
    """Return the bindings, each once, under which a body held before some changes and holds no more."""
    own = old_views(rule, store, changes)
    bounds = []
    for number in own:
        part = rule.body[number]
        rows = changes.went(part.name) if part.kind == "pos" else changes.came(part.name)
        bounds.extend(touched(rule, number, store, own, rows))
    return each_once(rule, bounds)


def begun(rule, store, changes):
    """Return the bindings, each once, under which a body holds since some changes and didn't before."""
    bounds = []
    for number in changed_parts(rule, changes):
        part = rule.body[number]
        rows = changes.came(part.name) if part.kind == "pos" else changes.went(part.name)
        bounds.extend(touched(rule, number, store, {}, rows))
    return each_once(rule, bounds)


def changed_parts(rule, changes):
    """Return the numbers of the parts that ask for or against a name with changes."""
    names = changes.names()
    return [number for number, part in enumerate(rule.body) if part.kind in ("pos", "neg") and part.name in names]


def old_views(rule, store, changes):
    """Return, for each part whose name changed, its relation as it was before."""
    views = {}
    for number in changed_parts(rule, changes):
        name = rule.body[number].name
        views[number] = Before(store.of(name), changes.came(name), changes.went(name))
    return views


def touched(rule, number, store, own, rows):
    """Return the bindings under which a body holds, one part of it touched by one of some rows."""
    views = Views(store, own)
    found = []
    for start in first_bounds(rule, number, rows):
        found.extend(all_solutions(rule, views, start))
    return found


def first_bounds(rule, number, rows):
    """Return the bindings that rows make of one part's names, each once."""
    firsts = {}
    for row in rows:
        bound = bound_by(rule, number, row)
        if bound is not None:
            firsts.setdefault(tuple(bound.items()), bound)
    return list(firsts.values())


def bound_by(rule, number, row):
    """Return a table of a part's names, a not's shared ones alone, to a row's values; None where it doesn't fit."""
    part = rule.body[number]
    bound = matched(part.terms, row, {})
    if bound is None or part.kind == "pos":
        return bound
    return {name: bound[name] for name in needs(rule, number)}
