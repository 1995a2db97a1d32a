"""Stores: rows of a name, looked up by any of their places, and the same as they were before some changes."""

from deducehall.errors import NoSuch
from deducehall.terms import in_order


class Relation:
    """Rows, each once, with tables by the places they were looked up by."""

    def __init__(self, rows=()):
        self.held = {row: True for row in rows}
        self.tables = {}

    def has(self, row):
        """Tell whether a row is there."""
        return row in self.held

    def size(self):
        """Return how many rows there are."""
        return len(self.held)

    def add(self, row):
        """Put a row in; return whether it is new."""
        if row in self.held:
            return False
        self.held[row] = True
        for places in list(self.tables):
            put_under(self.tables[places], picked(row, places), row)
        return True

    def drop(self, row):
        """Take a row out; return whether it was there."""
        if row not in self.held:
            return False
        del self.held[row]
        for places in list(self.tables):
            take_from(self.tables[places], picked(row, places), row)
        return True

    def look(self, places, values):
        """Return the rows with some values at some places."""
        key = tuple(places)
        if key == ():
            return list(self.held)
        if key not in self.tables:
            self.tables[key] = self.table_by(key)
        return list(self.tables[key].get(tuple(values), {}))

    def table_by(self, places):
        """Return a table of values at some places to a table of the rows with them."""
        table = {}
        for row in self.held:
            put_under(table, picked(row, places), row)
        return table

    def rows(self):
        """Return all rows in order."""
        return in_order(self.held)

    def twin(self):
        """Return another with the same rows."""
        return Relation(self.held)


class Before:
    """A relation as it was before some rows were put in and others taken out."""

    def __init__(self, now, added, dropped):
        self.now = now
        self.added = {row: True for row in added}
        self.dropped = {row: True for row in dropped}

    def has(self, row):
        """Tell whether a row was there."""
        return row in self.dropped or (row not in self.added and self.now.has(row))

    def size(self):
        """Return how many rows there were."""
        went = len([row for row in self.added if self.now.has(row)])
        return self.now.size() - went + len([row for row in self.dropped if row in self.added or not self.now.has(row)])

    def look(self, places, values):
        """Return the rows that were there, with some values at some places."""
        rows = [row for row in self.now.look(places, values) if row not in self.added and row not in self.dropped]
        return rows + [row for row in self.dropped if picked(row, places) == tuple(values)]

    def rows(self):
        """Return all rows that were there, in order."""
        return in_order(self.look((), ()))


class Store:
    """Relations by their names; one that isn't told is bare."""

    def __init__(self):
        self.relations = {}

    def of(self, name):
        """Return a name's relation."""
        if name not in self.relations:
            self.relations[name] = Relation()
        return self.relations[name]

    def names(self):
        """Return the names with rows, in order."""
        return tuple([name for name in sorted(self.relations) if self.relations[name].size() > 0])

    def has(self, name, row):
        """Tell whether a name has a row."""
        return name in self.relations and self.relations[name].has(row)

    def size(self):
        """Return how many rows there are in all."""
        return sum([self.relations[name].size() for name in self.relations])

    def twin(self):
        """Return another with the same rows."""
        other = Store()
        for name in self.names():
            other.relations[name] = self.relations[name].twin()
        return other

    def shown(self):
        """Return (name, rows in order) for each name with rows, in order."""
        return tuple([(name, self.relations[name].rows()) for name in self.names()])


class Changes:
    """Rows put in and taken out, by names: what comes back cancels what went."""

    def __init__(self):
        self.added = {}
        self.dropped = {}

    def note(self, name, row, came):
        """Note that a row came or went."""
        here, there = (self.added, self.dropped) if came else (self.dropped, self.added)
        if row in there.get(name, {}):
            take_from(there, name, row)
        else:
            put_under(here, name, row)

    def came(self, name):
        """Return the rows of a name that came."""
        return list(self.added.get(name, {}))

    def went(self, name):
        """Return the rows of a name that went."""
        return list(self.dropped.get(name, {}))

    def names(self):
        """Return the names with rows that came or went, in order."""
        return tuple(sorted({name: True for name in list(self.added) + list(self.dropped)}))

    def is_bare(self):
        """Tell whether nothing came or went."""
        return self.names() == ()

    def turned(self):
        """Return changes that undo them."""
        other = Changes()
        for name in self.names():
            for row in self.came(name):
                other.note(name, row, False)
            for row in self.went(name):
                other.note(name, row, True)
        return other

    def shown(self):
        """Return (name, rows that came, rows that went), in order, for each name with any."""
        return tuple([(name, in_order(self.came(name)), in_order(self.went(name))) for name in self.names()])


def put_under(table, key, row):
    """Put a row into a table's table of rows under a key."""
    table.setdefault(key, {})[row] = True


def take_from(table, key, row):
    """Take a row out of a table's table of rows under a key; a bare one goes."""
    rows = table[key]
    del rows[row]
    if rows == {}:
        del table[key]


def picked(row, places):
    """Return a row's values at some places, None where it has fewer."""
    if any([place >= len(row) for place in places]):
        return None
    return tuple([row[place] for place in places])


def store_of(facts):
    """Return a store of (name, row) pairs."""
    store = Store()
    for name, row in facts:
        store.of(name).add(row)
    return store


def apart(one, other):
    """Return the changes that make one store the other."""
    changes = Changes()
    for name in one.names():
        for row in one.of(name).rows():
            if not other.has(name, row):
                changes.note(name, row, False)
    for name in other.names():
        for row in other.of(name).rows():
            if not one.has(name, row):
                changes.note(name, row, True)
    return changes


def laid_on(store, changes):
    """Put changes upon a store; NoSuch for a row that went and isn't there, or came and is, ahead of all."""
    for name in changes.names():
        for row in changes.went(name):
            if not store.has(name, row):
                raise NoSuch(f"not there: {name}")
        for row in changes.came(name):
            if store.has(name, row):
                raise NoSuch(f"there: {name}")
    for name in changes.names():
        relation = store.of(name)
        for row in changes.went(name):
            relation.drop(row)
        for row in changes.came(name):
            relation.add(row)
