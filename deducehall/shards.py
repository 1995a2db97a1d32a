"""Shards: rows told from place to place over a net that may turn, double and drop what is sent."""

from deducehall.errors import BadLayer, NoSuch
from deducehall.rounds import fresh_rows
from deducehall.stores import Store
from deducehall.terms import in_order, is_number


class Shard:
    """One place: its rules, its rows, and what it has not yet thought through."""

    def __init__(self, rules):
        self.rules = tuple(rules)
        self.store = Store()
        self.fresh = []

    def meet(self, name, row):
        """Take a row in; return whether it is new here."""
        is_new = self.store.of(name).add(row)
        if is_new:
            self.fresh.append((name, row))
        return is_new

    def think(self):
        """Take the first new row and tell all that follows by it; return (name, row) pairs that are new here."""
        if self.fresh == []:
            return ()
        name, row = self.fresh.pop(0)
        found = []
        for rule in self.rules:
            for told in in_order(fresh_rows(rule, (name,), self.store, {name: [row]})):
                if self.meet(rule.name, told):
                    found.append((rule.name, told))
        return tuple(found)

    def think_through(self):
        """Think until nothing is new; return all that came of it."""
        found = []
        while self.fresh != []:
            found.extend(self.think())
        return tuple(found)


class Net:
    """Shards and what is on its way between them."""

    def __init__(self, rules, many):
        for rule in rules:
            check_plain(rule)
        self.shards = [Shard(rules) for _ in range(many)]
        self.ways = []

    def put(self, name, row):
        """Put a fact in at its home; return the home's number."""
        number = home(row, len(self.shards))
        if self.shards[number].meet(name, row):
            self.send_on(number, [(name, row)])
        return number

    def send_on(self, number, pairs):
        """Send rows from one place to all others."""
        for name, row in pairs:
            for other in range(len(self.shards)):
                if other != number:
                    self.ways.append((other, name, row))

    def think(self, number):
        """Let a place think once and send on what came of it; return that; NoSuch."""
        pairs = self.shard(number).think()
        self.send_on(number, pairs)
        return pairs

    def shard(self, number):
        """Return a place; NoSuch."""
        if not 0 <= number < len(self.shards):
            raise NoSuch(f"no place: {number}")
        return self.shards[number]

    def must_be_on_way(self, place):
        """Refuse with NoSuch a place of the row on which nothing is on its way."""
        if not 0 <= place < len(self.ways):
            raise NoSuch(f"nothing on its way: {place}")

    def bring(self, place):
        """Bring what is on its way at a place of the row; return whether it was new there; NoSuch."""
        self.must_be_on_way(place)
        number, name, row = self.ways.pop(place)
        return self.shards[number].meet(name, row)

    def double(self, place):
        """Double what is on its way at a place, the copy last; NoSuch."""
        self.must_be_on_way(place)
        self.ways.append(self.ways[place])

    def drop(self, place):
        """Drop what is on its way at a place; NoSuch."""
        self.must_be_on_way(place)
        del self.ways[place]

    def even_out(self, one, other):
        """Let one place have all rows of another that it lacks; return how many; NoSuch."""
        here, there = self.shard(one), self.shard(other)
        many = 0
        for name, rows in there.store.shown():
            for row in rows:
                if here.meet(name, row):
                    many += 1
        return many

    def settle(self):
        """Bring, think and even out until nothing is new anywhere; return how many rounds had something new."""
        many = 0
        while self.has_news():
            many += 1
        return many

    def has_news(self):
        """Bring all, let each place think through, even all out; tell whether anything was new anywhere."""
        news = 0
        while self.ways != []:
            if self.bring(0):
                news += 1
        for number, shard in enumerate(self.shards):
            pairs = shard.think_through()
            self.send_on(number, pairs)
            news += len(pairs)
        for one in range(len(self.shards)):
            for other in range(len(self.shards)):
                news += self.even_out(one, other)
        return news > 0

    def shown(self):
        """Return what each place holds, in order."""
        return tuple([shard.store.shown() for shard in self.shards])


def check_plain(rule):
    """Refuse with BadLayer a rule with a not, a sum, a reckoning, or no part that asks for rows."""
    if rule.summed is not None or rule.asked("neg") != () or rule.body == ():
        raise BadLayer(f"summed, with a not, or without a body: {rule.name}")
    if rule.reckons() or rule.asked("pos") == ():
        raise BadLayer(f"reckons, or asks for no rows: {rule.name}")


def home(row, many):
    """Return the number of the place where a row is at home: by its first value, nought for a bare row."""
    if row == ():
        return 0
    weight = abs(row[0]) if is_number(row[0]) else sum([ord(sign) for sign in row[0]])
    return weight % many
