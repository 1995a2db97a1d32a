"""Redo: a ring of names that ask each other, kept up by taking out too much, telling again, and putting in."""

from deducehall.counts import begun, ceased, names_heard, old_views, touched
from deducehall.joins import Views
from deducehall.rounds import (
    all_solutions, by_names, fresh_round, has_rows, put_all, quick_rounds, ring_rules, whole,
)
from deducehall.terms import filled, matched


class Redo:
    """A ring's names and rules."""

    def __init__(self, ring, rules):
        self.ring = tuple(ring)
        self.rules = tuple(ring_rules(rules, self.ring))
        self.plain = tuple([rule for rule in self.rules if rule.summed is None])
        self.summed = tuple([rule for rule in self.rules if rule.summed is not None])
        self.sums = [{} for _ in self.summed]
        self.heard = names_heard(self.ring, self.rules)

    def count_all(self, store, base):
        """Work all rows out over a store; put them in."""
        quick_rounds(self.rules, self.ring, base, store)
        self.sums = self.sums_now(store)

    def sums_now(self, store):
        """Return, for each summed rule, a table of the rows it tells: it asks names below the ring alone."""
        return [{row: True for row in whole(rule, store)} for rule in self.summed]

    def parted_sums(self, one, other):
        """Return (name, row) pairs that summed rules tell by one list of tables and not by another."""
        pairs = []
        for rule, here, there in zip(self.summed, one, other):
            pairs.extend([(rule.name, row) for row in here if row not in there])
        return pairs

    def first_gone(self, store, based, changes, lost):
        """Return (name, row) pairs that stood by a base's row that went, a sum that did, or what changed below."""
        pairs = [(name, row) for name in self.ring for row in based.went(name)] + list(lost)
        for rule in self.plain:
            pairs.extend([(rule.name, filled(rule.terms, bound)) for bound in ceased(rule, store, changes)])
        return pairs

    def all_gone(self, store, based, changes, lost):
        """Return a table of names to all rows that may have lost what they stood by."""
        gone = {}
        news = by_names(self.ring, each_new(gone, self.first_gone(store, based, changes, lost)))
        while has_rows(news):
            news = by_names(self.ring, each_new(gone, self.stood_on(store, changes, news)))
        return by_names(self.ring, gone)

    def stood_on(self, store, changes, news):
        """Return (name, row) pairs that stood, before changes below, by way of rows of a table of the ring's names."""
        pairs = []
        for rule in self.plain:
            own = old_views(rule, store, changes)
            for number, part in enumerate(rule.body):
                if part.kind == "pos" and part.name in self.ring:
                    bounds = touched(rule, number, store, own, news[part.name])
                    pairs.extend([(rule.name, filled(rule.terms, bound)) for bound in bounds])
        return pairs

    def still_told(self, name, row, store, base):
        """Tell whether a row is a base's, a sum's, or told by a rule over what is left."""
        if base.has(name, row):
            return True
        if any([rule.name == name and row in told for rule, told in zip(self.summed, self.sums)]):
            return True
        return any([rule.name == name and tells(rule, row, store) for rule in self.plain])

    def first_news(self, store, based, changes, won):
        """Return (name, row) pairs that came by a base's row, a sum, or what changed below."""
        pairs = [(name, row) for name in self.ring for row in based.came(name)] + list(won)
        for rule in self.plain:
            pairs.extend([(rule.name, filled(rule.terms, bound)) for bound in begun(rule, store, changes)])
        return pairs

    def keep_up(self, store, based, changes, base):
        """Take in a base's changes of the ring, and changes below it that the store has; note what came and went."""
        before = self.sums
        self.sums = self.sums_now(store)
        gone = self.all_gone(store, based, changes, self.parted_sums(before, self.sums))
        for name in self.ring:
            for row in gone[name]:
                store.of(name).drop(row)
        left = [(name, row) for name in self.ring for row in gone[name] if self.still_told(name, row, store, base)]
        again = self.put_rounds(store, left)
        news = self.put_rounds(store, self.first_news(store, based, changes, self.parted_sums(self.sums, before)))
        for name in self.ring:
            # What came back cancels what went.
            for row in gone[name]:
                changes.note(name, row, False)
            for row in again[name] + news[name]:
                changes.note(name, row, True)

    def put_rounds(self, store, told):
        """Put rows in and all that they tell, round by round; return a table of names to what was put in."""
        news = by_names(self.ring, put_all(store, told))
        found = {name: list(news[name]) for name in self.ring}
        while has_rows(news):
            news = fresh_round(self.plain, self.ring, store, news)
            for name in self.ring:
                found[name].extend(news[name])
        return found


def each_new(found, pairs):
    """Return the (name, row) pairs that a table hasn't found yet, each once; the table has them from then on."""
    fresh = []
    for pair in pairs:
        if pair not in found:
            found[pair] = True
            fresh.append(pair)
    return fresh


def head_bound(rule, row):
    """Return the binding, a table, that a row makes of a rule's head, None where it doesn't fit."""
    return matched(rule.terms, row, {})


def ways_to(rule, row, store):
    """Return all bindings by which a rule tells a row over a store."""
    start = head_bound(rule, row)
    return [] if start is None else all_solutions(rule, Views(store), start)


def tells(rule, row, store):
    """Tell whether a rule that isn't summed tells a row over a store."""
    return ways_to(rule, row, store) != []
