"""Sums: counts, sums, least and most of all bindings of a rule, group by group, and kept up binding by binding."""

from deducehall.errors import NoSuch
from deducehall.joins import as_key
from deducehall.rules import bounded
from deducehall.terms import filled, in_order, is_number, value_key


class Group:
    """The values that a group's bindings bring, each with how often."""

    def __init__(self):
        self.often = {}
        self.many = 0
        self.whole = 0
        self.words = 0

    def bring(self, value, way):
        """Bring a value once more (way 1) or once less (way -1); NoSuch for one that isn't there."""
        left = self.often.get(value, 0) + way
        if left < 0:
            raise NoSuch(f"not there: {value}")
        self.many += way
        if is_number(value):
            # The whole sum is kept however long it is: it may come back to eighteen figures.
            self.whole += way * value
        else:
            self.words += way
        if left == 0:
            del self.often[value]
        else:
            self.often[value] = left

    def told(self, kind):
        """Return what a sum of a kind tells, None where it tells nothing: words aren't summed."""
        if self.many == 0:
            return None
        if kind == "count":
            return self.many
        if kind == "sum":
            return bounded(self.whole) if self.words == 0 else None
        return min(self.often, key=value_key) if kind == "least" else max(self.often, key=value_key)


class Ledger:
    """A summed rule's groups, with the bindings that brought their values."""

    def __init__(self, rule):
        self.rule = rule
        self.groups = {}
        self.brought = {}

    def group_of(self, bound):
        """Return a binding's group: the head's other places filled."""
        return filled([self.rule.terms[place] for place in self.rule.group()], bound)

    def bring(self, bound, way):
        """Bring a binding (way 1) or take it (way -1); return its group; NoSuch for one that is there, or isn't."""
        key = as_key(self.rule, bound)
        if (key in self.brought) == (way > 0):
            raise NoSuch(f"brought already, or not there: {self.rule.name}")
        group = self.group_of(bound)
        values = self.groups.setdefault(group, Group())
        values.bring(self.rule.terms[self.rule.summed[0]].under(bound), way)
        if way > 0:
            self.brought[key] = True
        else:
            del self.brought[key]
        if values.many == 0:
            del self.groups[group]
        return group

    def row_of(self, group):
        """Return the row that a group tells, None where it tells none."""
        if group not in self.groups:
            return None
        place, kind = self.rule.summed
        value = self.groups[group].told(kind)
        return None if value is None else group[:place] + (value,) + group[place:]

    def rows(self):
        """Return all rows told, in order."""
        found = [self.row_of(group) for group in self.groups]
        return in_order([row for row in found if row is not None])


def ledger_of(rule, bounds):
    """Return a rule's ledger of bindings, each brought once however often it is told."""
    ledger = Ledger(rule)
    for bound in bounds:
        if as_key(rule, bound) not in ledger.brought:
            ledger.bring(bound, 1)
    return ledger


def summed_rows(rule, bounds):
    """Return the rows that a summed rule tells under bindings, in order."""
    return list(ledger_of(rule, bounds).rows())


def summed(kind, values):
    """Return what a sum of a kind tells of values, None for nothing."""
    group = Group()
    for value in values:
        group.bring(value, 1)
    return group.told(kind)
