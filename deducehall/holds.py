"""Holds: transactions over an engine: begun, marked, gone back, kept or thrown away, bounds looked at when kept."""

from deducehall.engines import many_changes
from deducehall.errors import BadDeed, Broken, DeduceFault, NoSuch
from deducehall.stores import Changes


class Hold:
    """An engine, its bounds and watches, and what a transaction did so far."""

    def __init__(self, engine, bounds, watches):
        self.engine = engine
        self.bounds = bounds
        self.watches = watches
        self.kept = 0
        self.close()

    def close(self):
        """Have no transaction open."""
        self.steps = []
        self.marks = {}
        # The rules of when it was begun, None where none is open, and all that came and went since before it.
        self.rules = None
        self.before = Changes()

    def is_open(self):
        """Tell whether a transaction is open."""
        return self.rules is not None

    def begin(self):
        """Begin a transaction; BadDeed where one is open."""
        if self.is_open():
            raise BadDeed("a transaction has begun")
        self.rules = self.engine.rules

    def must_be_open(self):
        """Refuse with BadDeed where none is open."""
        if not self.is_open():
            raise BadDeed("no transaction has begun")

    def put(self, name, row):
        """Put a fact in; return what came and went; BadDeed, BadKind, NoSuch."""
        self.must_be_open()
        changes = self.engine.put(name, row)
        self.steps.append((name, row, True))
        return self.noted(changes)

    def take(self, name, row):
        """Take a fact out; return what came and went; BadDeed, BadKind, NoSuch."""
        self.must_be_open()
        changes = self.engine.take(name, row)
        self.steps.append((name, row, False))
        return self.noted(changes)

    def with_rules(self, rules):
        """Give other rules; return what came and went; BadDeed, and what engines refuse."""
        self.must_be_open()
        return self.noted(self.engine.with_rules(rules))

    def noted(self, changes):
        """Note what came and went since before the transaction; return it."""
        for name in changes.names():
            for row in changes.went(name):
                self.before.note(name, row, False)
            for row in changes.came(name):
                self.before.note(name, row, True)
        return changes

    def mark(self, word):
        """Set a mark by a word, in place of one of that word; BadDeed."""
        self.must_be_open()
        if word in self.marks:
            # One set again is the newest.
            del self.marks[word]
        self.marks[word] = len(self.steps), self.engine.rules

    def go_back(self, word):
        """Go back to a mark, which stays; later ones go; return what came and went; BadDeed, NoSuch."""
        self.must_be_open()
        if word not in self.marks:
            raise NoSuch(f"no mark: {word}")
        words = list(self.marks)
        self.marks = {other: self.marks[other] for other in words[:words.index(word) + 1]}
        many, rules = self.marks[word]
        return self.undone(many, rules)

    def undo(self, many, rules):
        """Undo all steps behind the first so many, and give the rules of then."""
        self.must_be_open()
        self.undone(many, rules)

    def undone(self, many, rules):
        """Undo all steps behind the first so many, and give the rules of then; return what came and went."""
        based = many_changes(self.steps[many:]).turned()
        changes = self.engine.take_in(based) if rules == self.engine.rules else self.engine.renew(rules, based)
        self.steps = self.steps[:many]
        self.marks = {word: self.marks[word] for word in self.marks if self.marks[word][0] <= many}
        return self.noted(changes)

    def throw_away(self):
        """Throw all away; return what came and went by it; BadDeed."""
        self.must_be_open()
        changes = self.undone(0, self.rules)
        self.close()
        return changes

    def keep(self):
        """Keep all; return (what came and went in all, news of watches); Broken throws all away; BadDeed."""
        self.must_be_open()
        changes = self.before
        broken = self.bounds.broken_by(self.engine, changes)
        if broken != ():
            self.throw_away()
            raise Broken(f"broken: {broken[0][0]}")
        self.close()
        self.kept += 1
        return changes, self.watches.tell(self.engine, changes)

    def based(self):
        """Return the changes of facts that an open transaction made, what came back cancelled; BadDeed."""
        self.must_be_open()
        return many_changes(self.steps)


def at_once(hold, steps):
    """Do (name, row, came) steps as one transaction, all kept or none; return what keep returns; BadDeed, Broken."""
    hold.begin()
    for name, row, came in steps:
        if not done(hold, name, row, came):
            hold.throw_away()
            raise BadDeed(f"refused: {name}")
    return hold.keep()


def done(hold, name, row, came):
    """Do one step; return whether it wasn't refused."""
    try:
        if came:
            hold.put(name, row)
        else:
            hold.take(name, row)
    except DeduceFault:
        return False
    return True
