"""Prunes: rules made fewer and shorter that tell the same of the names that are asked."""

from deducehall.compares import is_simple, linked, needed_rules, shortest
from deducehall.errors import BadRule
from deducehall.joins import holds_between
from deducehall.layers import below, links, reached
from deducehall.magics import has_loop
from deducehall.rules import Rule, names_of, told_by
from deducehall.terms import made_alike

# What variables of a rule are called that is put in place of a part.
MARK = "U"


def wanted(rules, names):
    """Return the very rules that tell what some names ask, over others, those names too."""
    asked = below(rules, names)
    return tuple([rule for rule in rules if rule.name in asked])


def tidy(rule):
    """Return a rule without parts told twice and tests of values that hold; None where one can't hold."""
    left = {}
    for part in rule.body:
        holds = sure_of(part)
        if holds is False:
            return None
        if holds is None:
            left.setdefault(part.shown(), part)
    return rule if len(left) == len(rule.body) else Rule(rule.name, rule.terms, list(left.values()), rule.summed)


def sure_of(part):
    """Tell whether a test of two values, or of a term with itself, holds; None for a part that isn't sure."""
    if part.kind != "cmp":
        return None
    one, other = part.terms
    if one.shown() == other.shown():
        return holds_between(part.name, 0, 0)
    if one.is_variable() or other.is_variable():
        return None
    return holds_between(part.name, one.value, other.value)


def tidied(rules):
    """Return rules tidied, those that can't hold left out, and those that ask for their own head."""
    found = [tidy(rule) for rule in rules]
    return tuple([rule for rule in found if rule is not None and not asks_itself(rule)])


def asks_itself(rule):
    """Tell whether a rule that isn't summed asks for the row that it tells."""
    return has_loop(rule)


def apart_from(rule, other, mark):
    """Return a rule with its variables called so that none is one of another's."""
    taken = {name: True for name in other.names()}
    names = {}
    for name in rule.names():
        number = len(taken)
        while f"{mark}{number}" in taken:
            number += 1
        names[name] = f"{mark}{number}"
        taken[names[name]] = True
    return rule.with_names(names)


def unfolded(rule, number, inner):
    """Return a rule with one part put in place by a rule that tells it; None where their terms can't be alike."""
    own = apart_from(inner, rule, MARK)
    # The rule's names lead to the inner one's: so no low stroke's name comes to stand at two places.
    found = made_alike(rule.body[number].terms, own.terms)
    if found is None:
        return None
    return linked(rule, rule.body[:number] + own.body + rule.body[number + 1:], found)


def can_unfold(rules, name, based, names):
    """Tell whether a name that rules tell may be put in place: simple rules, no ring, no facts, not asked or denied."""
    told = [rules[number] for number in told_by(rules, name)]
    if told == [] or name in based or name in names or name in reached(links(rules), name):
        return False
    # A rule without a body is a fact.
    if any([not is_simple(rule) or rule.body == () for rule in told]):
        return False
    askers = [rule for rule in rules if name in rule.asked("pos") + rule.asked("neg")]
    return all([is_simple(rule) for rule in askers])


def put_in_place(rules, name):
    """Return rules with a name's parts put in place by each of its rules, its own left out; BadRule: asks itself."""
    inners = [rules[number] for number in told_by(rules, name)]
    if any([name in inner.asked("pos") + inner.asked("neg") for inner in inners]):
        raise BadRule(f"asks itself: {name}")
    found = []
    for rule in rules:
        if rule.name != name:
            found.extend(put_in_rule(rule, name, inners))
    return tuple(found)


def put_in_rule(rule, name, inners):
    """Return the rules that come of one with all a name's parts put in place by each of some rules."""
    done = []
    left = [rule]
    while left != []:
        one = left.pop(0)
        numbers = [number for number, part in enumerate(one.body) if part.kind == "pos" and part.name == name]
        if numbers == []:
            done.append(one)
        else:
            more = [unfolded(one, numbers[0], inner) for inner in inners]
            left = [other for other in more if other is not None] + left
    return done


def pruned(rules, based, names):
    """Return rules that tell the same of some names: wanted ones, tidied, put in place, shortened, needed."""
    before = None
    left = tuple(rules)
    while before is None or shown_rules(before) != shown_rules(left):
        before = left
        left = pruned_once(left, based, names)
    return left


def pruned_once(rules, based, names):
    """Return rules once tidied, put in place name by name, shortened and needed: some may then be pruned again."""
    left = tidy_and_wanted(rules, names)
    name = first_to_unfold(left, based, names)
    while name is not None:
        left = tidy_and_wanted(put_in_place(left, name), names)
        name = first_to_unfold(left, based, names)
    short = [shortest(rule) if is_simple(rule) else rule for rule in left]
    return tidy_and_wanted(needed_rules(short), names)


def tidy_and_wanted(rules, names):
    """Return rules tidied, those that some names don't ask left out; one of held tests alone keeps the first."""
    found = []
    for rule in rules:
        for other in tidied([rule]):
            # Without a body it would be a fact, which no engine takes among its rules.
            is_bare = other.body == () and rule.body != ()
            found.append(Rule(rule.name, rule.terms, rule.body[:1]) if is_bare else other)
    return wanted(found, names)


def first_to_unfold(rules, based, names):
    """Return the first name, by letters, that may be put in place, None for none."""
    for name in names_of(rules):
        if can_unfold(rules, name, based, names):
            return name
    return None


def shown_rules(rules):
    """Return what rules show."""
    return [rule.shown() for rule in rules]


def saving(rules, based, names):
    """Return (rules, parts) fewer after pruning."""
    left = pruned(rules, based, names)
    return len(rules) - len(left), parts_of(rules) - parts_of(left)


def parts_of(rules):
    """Return how many parts rules have in all."""
    return sum([len(rule.body) for rule in rules])


def plain_names(rules):
    """Return rules with their variables called plainly, in order."""
    return tuple([rule.plain() for rule in rules])
