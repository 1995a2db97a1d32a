"""Engines: rules over a base of facts, with all that they tell, kept up change by change."""

from deducehall.counts import Count
from deducehall.errors import BadKind, BadRule, BadSize, NoSuch
from deducehall.kinds import places_of
from deducehall.layers import check_layers, is_ring
from deducehall.redo import Redo
from deducehall.rounds import outside, ring_rules
from deducehall.rules import bounded, without_repeats
from deducehall.safety import is_name, parted
from deducehall.stores import Changes, Store, apart, laid_on
from deducehall.terms import is_number


class Engine:
    """Rules, a base of facts, and the rows that both tell."""

    def __init__(self, rules=(), facts=()):
        self.rules = checked_rules(rules)
        self.places = places_of(self.rules, ())
        self.order = check_layers(self.rules)
        self.base = Store()
        self.keepers = ()
        self.store = Store()
        laid_on(self.base, self.checked(many_changes([(name, row, True) for name, row in facts])))
        self.lay()

    def check_names(self, names):
        """Return names that may be told; BadRule for another."""
        for name in names:
            if not is_name(name):
                raise BadRule(f"may not be told: {name}")
        return names

    def places_for(self, name):
        """Return how many places a name has by the rules, else by its facts, None for neither."""
        return self.places_after(name, Changes())

    def lay(self):
        """Lay the rings anew and work all rows out."""
        self.order = check_layers(self.rules)
        self.keepers = tuple([keeper_of(ring, self.rules) for ring in self.order])
        self.store = outside(self.order, self.base)
        for keeper in self.keepers:
            keeper.count_all(self.store, self.base)

    def facts(self):
        """Return the base's facts as (name, row) pairs in order."""
        return tuple([(name, row) for name, rows in self.base.shown() for row in rows])

    def rows(self, name):
        """Return all rows of a name in order; NoSuch for a name that isn't told."""
        if self.places_for(name) is None:
            raise NoSuch(f"not told: {name}")
        return self.store.of(name).rows()

    def has(self, name, row):
        """Tell whether a row is told."""
        return self.store.has(name, row)

    def checked(self, changes):
        """Return changes the base can take; BadRule for a bad name, BadKind, NoSuch for what isn't so."""
        for name in changes.names():
            self.check_names([name])
            if any([not self.base.has(name, row) for row in changes.went(name)]):
                raise NoSuch(f"not there: {name}")
            if any([self.base.has(name, row) for row in changes.came(name)]):
                raise NoSuch(f"there: {name}")
            count = self.places_after(name, changes)
            if any([len(row) != count for row in check_rows(changes.came(name))]):
                raise BadKind(f"{name} has {count} places")
        return changes

    def places_after(self, name, changes):
        """Return how many places a name has when changes of facts are laid on: by rules, staying rows, new ones."""
        count = self.places.count_of(name)
        if count is not None:
            return count
        went = {row: True for row in changes.went(name)}
        for rows in (self.base.of(name).held, changes.came(name)):
            for row in rows:
                if row not in went:
                    return len(row)
        return None

    def take_in(self, based):
        """Take changes of the base in; return all that came and went; a refusal changes nothing."""
        laid_on(self.base, self.checked(based))
        changes = self.taken_outside(based)
        for keeper in self.keepers:
            if hears(keeper, based) or hears(keeper, changes):
                if isinstance(keeper, Redo):
                    keeper.keep_up(self.store, based, changes, self.base)
                else:
                    keeper.keep_up(self.store, based, changes)
        return changes

    def taken_outside(self, based):
        """Take in the base's changes of names that no rule knows; return them."""
        changes = Changes()
        for name in based.names():
            if self.places.count_of(name) is None:
                for row in based.went(name):
                    changes.note(name, row, False)
                for row in based.came(name):
                    changes.note(name, row, True)
        laid_on(self.store, changes)
        return changes

    def put(self, name, row):
        """Put a fact in; return all that came and went; BadKind, NoSuch for one that is there."""
        return self.take_in(one_change(name, row, True))

    def take(self, name, row):
        """Take a fact out; return all that came and went; BadKind, NoSuch for one that isn't there."""
        return self.take_in(one_change(name, row, False))

    def shown(self):
        """Return (name, rows) for each name with rows, in order."""
        return self.store.shown()

    def with_rules(self, rules):
        """Give it other rules, all rows worked out anew; return all that came and went; refusals change nothing."""
        return self.renew(rules, Changes())

    def renew(self, rules, based):
        """Lay changes of facts on and give other rules at once; return what came and went; refusals change nothing."""
        # All is tried on an engine of its own, so that a refusal finds this one just as it was.
        other = Engine(rules)
        other.base = self.base.twin()
        laid_on(other.base, other.checked(based))
        other.check_base()
        other.lay()
        changes = apart(self.store, other.store)
        self.rules = other.rules
        self.base = other.base
        self.places = other.places
        self.order = other.order
        self.keepers = other.keepers
        self.store = other.store
        return changes

    def check_base(self):
        """Refuse with BadKind facts that have other places than the rules say."""
        for name, rows in self.base.shown():
            count = self.places_for(name)
            if any([len(row) != count for row in rows]):
                raise BadKind(f"{name} has {count} places")


def checked_rules(rules):
    """Return rules, each once, that are safe and no facts; BadRule, BadSize."""
    facts, others = parted(rules)
    if facts != ():
        raise BadRule(f"a fact among rules: {facts[0][0]}")
    return without_repeats(others)


def keeper_of(ring, rules):
    """Return what keeps a ring up: a Redo where it asks itself, a Count elsewhere."""
    own = ring_rules(rules, ring)
    return Redo(ring, own) if is_ring(own, ring) else Count(ring[0], own)


def hears(keeper, changes):
    """Tell whether a keeper looks out for a name with changes."""
    return any([name in keeper.heard for name in changes.names()])


def check_rows(rows):
    """Return rows of values that may be; BadSize for a number of more than eighteen figures."""
    for row in rows:
        for value in row:
            if is_number(value) and bounded(value) is None:
                raise BadSize("a number of more than eighteen figures")
    return rows


def one_change(name, row, came):
    """Return changes with one row."""
    changes = Changes()
    changes.note(name, row, came)
    return changes


def many_changes(steps):
    """Return changes of (name, row, came) steps in order: what comes back cancels what went."""
    changes = Changes()
    for name, row, came in steps:
        changes.note(name, row, came)
    return changes
