"""Compares: which positive rule's answers lie within another's, and rules without what they needn't ask."""

from deducehall.errors import BadKind, BadRule
from deducehall.kinds import places_of
from deducehall.redo import tells
from deducehall.rounds import whole
from deducehall.rules import Literal, Rule
from deducehall.safety import all_terms
from deducehall.stores import store_of
from deducehall.terms import filled, in_order, is_number, names_in, put_in, val


def is_simple(rule):
    """Tell whether a rule only asks for rows and sums nothing."""
    return rule.summed is None and all([part.kind == "pos" for part in rule.body])


def own_mark(rules):
    """Return a mark, of question marks, that no word of some rules begins with."""
    values = [term.value for rule in rules for term in all_terms(rule) if not term.is_variable()]
    words = [value for value in values if not is_number(value)]
    mark = "?"
    while any([word.startswith(mark) for word in words]):
        mark += "?"
    return mark


def frozen(rule, mark="?"):
    """Return (facts of its body, row of its head), each variable a word of its own by a mark."""
    bound = {name: mark + name for name in rule.names()}
    facts = tuple([(part.name, filled(part.terms, bound)) for part in rule.body if part.kind == "pos"])
    return facts, filled(rule.terms, bound)


def must_be_simple(rules):
    """Refuse with BadRule rules that aren't simple."""
    for rule in rules:
        if not is_simple(rule):
            raise BadRule(f"not simple: {rule.name}")


def within(one, other):
    """Tell whether whatever one rule tells over any facts the other tells, too; BadKind for unlike places, BadRule."""
    must_be_simple([one, other])
    # A name has one count of places in both rules; heads of unlike names are held against each other, too.
    places_of([one, other], ())
    if len(one.terms) != len(other.terms):
        raise BadKind(f"unlike places: {one.name} and {other.name}")
    facts, row = frozen(one, own_mark([one, other]))
    return tells(other, row, store_of(facts))


def answers(rule, facts):
    """Return the rows that a rule tells over facts."""
    return in_order(whole(rule, store_of(facts)))


def alike(one, other):
    """Tell whether two rules tell the same over any facts."""
    return within(one, other) and within(other, one)


def shortest(rule):
    """Return a rule without parts that it needn't ask, the first ones left out first."""
    must_be_simple([rule])
    number = 0
    while number < len(rule.body):
        shorter = Rule(rule.name, rule.terms, rule.body[:number] + rule.body[number + 1:])
        # Fewer parts tell no less.
        if covers(shorter) and within(shorter, rule):
            rule = shorter
        else:
            number += 1
    return rule


def covers(rule):
    """Tell whether a rule's body has all names of its head."""
    return all([any([name in part.names() for part in rule.body]) for name in names_in(rule.terms)])


def needed_rules(rules):
    """Return the very rules without positive ones that lie within another, but the first alike; others stay."""
    return tuple([rule for number, rule in enumerate(rules) if is_needed(rules, number)])


def is_needed(rules, number):
    """Tell whether no other positive rule of the name tells all that a rule tells, or it is the first of those."""
    rule = rules[number]
    if not is_simple(rule):
        return True
    for there, other in enumerate(rules):
        if there != number and other.name == rule.name and is_simple(other) and within(rule, other):
            if there < number or not within(other, rule):
                return False
    return True


def witness(one, other):
    """Return facts over which one rule tells a row that the other doesn't, None where it lies within it."""
    return None if within(one, other) else frozen(one, own_mark([one, other]))[0]


def like_terms(one, other):
    """Return how many places of two rules' heads are the same value."""
    pairs = [(here.shown(), there.shown()) for here, there in zip(one.terms, other.terms)]
    return len([here for here, there in pairs if here == there and here[0] == "val"])


def at_value(rule, name, value):
    """Return a rule with one of its variables made a value."""
    return linked(rule, rule.body, {name: val(value)})


def linked(rule, body, links):
    """Return a rule with another body, links of names to terms put into it and the head."""
    parts = [Literal(part.kind, part.name, put_in(part.terms, links)) for part in body]
    return Rule(rule.name, put_in(rule.terms, links), parts, rule.summed)
