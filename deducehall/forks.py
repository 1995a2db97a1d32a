"""Forks: versions of a base, each from another, what lies between them, and three put together."""

from deducehall.engines import Engine
from deducehall.errors import NoSuch
from deducehall.stores import Store, apart, laid_on, picked, store_of
from deducehall.terms import in_order


class Version:
    """A version: its number, those it came from, and its facts."""

    def __init__(self, number, parents, facts):
        self.number = number
        self.parents = tuple(parents)
        self.kept = facts_in_order(store_of(facts))


class Forks:
    """Versions by their numbers, from nought on, the first one bare."""

    def __init__(self, rules=()):
        self.rules = tuple(rules)
        self.versions = [Version(0, (), ())]

    def version(self, number):
        """Return a version; NoSuch."""
        if not 0 <= number < len(self.versions):
            raise NoSuch(f"no version: {number}")
        return self.versions[number]

    def store_at(self, number):
        """Return a store of a version's facts; NoSuch."""
        return store_of(self.version(number).kept)

    def grow(self, number, changes):
        """Make a version from one by changes of facts; return its number; NoSuch for what doesn't fit."""
        store = self.store_at(number)
        laid_on(store, changes)
        return self.add((number,), store)

    def add(self, parents, base):
        """Add a version of a store; return its number."""
        number = len(self.versions)
        self.versions.append(Version(number, parents, facts_in_order(base)))
        return number

    def ancestry(self, number):
        """Return the numbers a version came from, over others, itself too, in order."""
        found = {number: True}
        left = [number]
        while left != []:
            for parent in self.version(left.pop()).parents:
                if parent not in found:
                    found[parent] = True
                    left.append(parent)
        return tuple(sorted(found))

    def meeting(self, one, other):
        """Return the latest version that both came from, by its number."""
        theirs = self.ancestry(other)
        common = [number for number in self.ancestry(one) if number in theirs]
        if common == []:
            raise NoSuch(f"no meeting: {one} and {other}")
        return common[-1]

    def between(self, one, other):
        """Return the changes of facts that make one version the other."""
        return apart(self.store_at(one), self.store_at(other))

    def join(self, one, other):
        """Put two versions together over their meeting; return the new one's number."""
        start = self.store_at(self.meeting(one, other))
        return self.add((one, other), together(start, self.store_at(one), self.store_at(other)))

    def engine_of(self, number):
        """Return an engine of a version's facts and the rules."""
        return Engine(self.rules, self.version(number).kept)

    def told_between(self, one, other):
        """Return the changes of all rows told that make one version the other."""
        return apart(self.engine_of(one).store, self.engine_of(other).store)

    def way(self, number):
        """Return the numbers from the first version to one, each time by its first parent."""
        numbers = [number]
        while self.version(numbers[-1]).parents != ():
            numbers.append(self.version(numbers[-1]).parents[0])
        return tuple(reversed(numbers))


def facts_in_order(store):
    """Return a store's (name, row) pairs in order."""
    return tuple([(name, row) for name, rows in store.shown() for row in rows])


def together(start, one, other):
    """Return the facts that are in both, or came in either since a start and went in neither, as a store."""
    store = Store()
    for here, there in ((one, other), (other, one)):
        for name, row in facts_in_order(here):
            if there.has(name, row) or not start.has(name, row):
                store.of(name).add(row)
    return store


def clash(start, one, other, name, places):
    """Return a tuple: values at places, in order, with new rows of a name in both, the other's not in the one."""
    theirs = values_at([row for row in fresh(start, other, name) if not one.has(name, row)], places)
    return in_order([values for values in values_at(fresh(start, one, name), places) if values in theirs])


def values_at(rows, places):
    """Return a table of the values that rows have at some places; rows with fewer places are passed over."""
    found = [picked(row, places) for row in rows]
    return {values: True for values in found if values is not None}


def fresh(start, store, name):
    """Return a name's rows that a store has and a start hasn't, in order."""
    return [row for row in store.of(name).rows() if not start.has(name, row)]
