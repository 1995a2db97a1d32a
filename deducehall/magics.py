"""Magics: rules written anew so that only what a question needs is told."""

from deducehall.errors import BadLayer
from deducehall.kinds import places_of
from deducehall.layers import below, rings
from deducehall.plans import plan
from deducehall.rounds import model
from deducehall.rules import Rule, names_of, pos, told_by
from deducehall.stores import store_of
from deducehall.terms import in_order, matched, names_in, pattern, var


class Magic:
    """Rules written anew for one name asked with some places known, and the row that starts them."""

    def __init__(self, rules, name, known):
        self.rules = tuple(rules)
        self.places = places_of(self.rules, ())
        self.taken = {word: True for word in names_of(self.rules) + (name,)}
        self.made = []
        self.called = {}
        self.left = []
        self.name = name
        self.spots = tuple(known)
        self.target = self.name_for(name, self.spots)
        while self.left != []:
            self.write(self.left.pop(0))
        self.made = without_loops(self.made)

    def free(self, name):
        """Return a name that isn't taken, x put behind as often as needed; take it."""
        while name in self.taken:
            name += "x"
        self.taken[name] = True
        return name

    def name_for(self, name, known):
        """Return the name of a name asked with some places known, and have it written."""
        key = name, tuple(known)
        if key not in self.called:
            spots = "_".join([str(place) for place in key[1]])
            self.called[key] = self.free(f"{name}_by{spots}"), self.free(f"ask_{name}_by{spots}")
            self.left.append(key)
        return self.called[key][0]

    def write(self, key):
        """Write the rules of one name asked with some places known."""
        name, known = key
        own, seed = self.called[key]
        for number in told_by(self.rules, name):
            self.write_rule(self.rules[number], own, seed, known)
        count = self.places.count_of(name)
        if count is not None:
            # A name that rules tell may have facts, too.
            terms = [var(f"V{place}") for place in range(count)]
            body = [pos(seed, [terms[place] for place in known]), pos(name, terms)]
            self.made.append(Rule(own, terms, body))

    def write_rule(self, rule, own, seed, known):
        """Write one rule: its head asked, then its parts in their plan's order, each told name asked ahead of it."""
        given = [rule.terms[place] for place in known]
        in_turn = plan(rule, {}, None, names_in(given))
        body = [pos(seed, given)]
        for step, number in enumerate(in_turn.order):
            part = rule.body[number]
            if part.kind == "pos" and told_by(self.rules, part.name) != ():
                spots = in_turn.known_places(step)
                answers = self.name_for(part.name, spots)
                asks = self.called[(part.name, spots)][1]
                self.made.append(Rule(asks, [part.terms[place] for place in spots], body))
                part = pos(answers, part.terms)
            body.append(part)
        self.made.append(Rule(own, rule.terms, body))

    def seed(self):
        """Return the name whose row starts it."""
        return self.called[(self.name, self.spots)][1]


def can_be(rules, name):
    """Tell whether a name can be asked so: no not, sum or reckoning in what it asks, over others."""
    names = below(rules, [name])
    asked = [rule for rule in rules if rule.name in names]
    return all([rule.summed is None and rule.asked("neg") == () and not rule.reckons() for rule in asked])


def magic(rules, name, known):
    """Return rules written anew; BadLayer for a not, sum or reckoning in what the name asks."""
    if not can_be(rules, name):
        raise BadLayer(f"can't be asked by need: {name}")
    return Magic(rules, name, known)


def quick(rules, facts, name, terms):
    """Return (rows told that fit terms, how many rows the rules written anew told); BadLayer."""
    known_rules = knowing(rules, name, len(terms))
    # Terms of another count than the name has places fit no row: none of them is known then.
    fits = places_of(known_rules, ()).count_of(name) == len(terms)
    known, values = pattern(terms, {}) if fits else ((), ())
    one = magic(known_rules, name, known)
    names = below(rules, [name])
    base = store_of([fact for fact in facts if fact[0] in names])
    base.of(one.seed()).add(values)
    store = model(one.made, rings(one.made), base)
    made = [word for pair in one.called.values() for word in pair]
    # The row that starts them is none that they told.
    many = sum([store.of(word).size() for word in made]) - 1
    return fitting_rows(store.of(one.target), terms), many


def knowing(rules, name, count):
    """Return rules that know how many places a name has: by itself where no rule tells or asks it."""
    if name in names_of(rules):
        return tuple(rules)
    terms = [var(f"V{place}") for place in range(count)]
    return tuple(rules) + (Rule(name, terms, [pos(name, terms)]),)


def fitting_rows(relation, terms):
    """Return a relation's rows that fit terms, in order."""
    places, values = pattern(terms, {})
    return in_order([row for row in relation.look(places, values) if matched(terms, row, {}) is not None])


def plain(engine, name, terms):
    """Return the rows of a name that fit terms, in order."""
    return fitting_rows(engine.store.of(name), terms)


def without_loops(rules):
    """Return rules without those whose head stands as it is in their body."""
    return [rule for rule in rules if not has_loop(rule)]


def has_loop(rule):
    """Tell whether a rule that isn't summed asks for the row that it tells."""
    head = pos(rule.name, rule.terms).shown()
    return rule.summed is None and any([part.shown() == head for part in rule.body])
