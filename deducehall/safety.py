"""Safety: whether a rule's variables are all limited, and what each part of a body needs and gives."""

from deducehall.errors import BadRule, BadSize
from deducehall.rules import bounded
from deducehall.signs import is_inner, is_small
from deducehall.terms import is_number, names_in


def needs(rule, number):
    """Return a tuple, by first places, of names bound ahead of a part: of a held or reckoned one, a not's shared."""
    part = rule.body[number]
    if part.kind == "cmp":
        return part.names()
    if part.kind == "let":
        return names_in(part.terms[1:])
    if part.kind == "neg":
        return tuple([name for name in part.names() if shared(rule, number, name)])
    return ()


def gives(rule, number):
    """Return the names that a rule's part binds."""
    part = rule.body[number]
    if part.kind == "pos":
        return part.names()
    return names_in(part.terms[:1]) if part.kind == "let" else ()


def shared(rule, number, name):
    """Tell whether a name stands elsewhere in a rule than in one part of its body."""
    here = 1 if name in rule.body[number].names() else 0
    return rule.stands.get(name, 0) > here


def ready(rule, number, bound):
    """Tell whether a part's needs are all in names bound."""
    return all([name in bound for name in needs(rule, number)])


def limited(rule):
    """Return the names that a rule's parts bind, in the order in which they are bound."""
    bound = {}
    before = -1
    while len(bound) > before:
        before = len(bound)
        for number in range(len(rule.body)):
            if ready(rule, number, bound):
                for name in gives(rule, number):
                    bound[name] = True
    return tuple(bound)


def loose(rule):
    """Return the names that are needed, or told in the head, and not limited, in order."""
    bound = limited(rule)
    found = {}
    for names in [names_in(rule.terms)] + [needs(rule, number) for number in range(len(rule.body))]:
        for name in names:
            if name not in bound:
                found[name] = True
    return tuple(found)


def reckoned_twice(rule):
    """Tell whether a reckoned variable is bound by another part, too."""
    return any([part.kind == "let" and has_value(rule, number) for number, part in enumerate(rule.body)])


def has_value(rule, number):
    """Tell whether what a part reckons is bound by another part, or asked by its own terms."""
    name = rule.body[number].terms[0].name
    if name in needs(rule, number):
        return True
    return any([name in gives(rule, other) for other in range(len(rule.body)) if other != number])


def all_terms(rule):
    """Return all terms of a rule, the head's first."""
    terms = list(rule.terms)
    for part in rule.body:
        terms.extend(part.terms)
    return terms


def too_long(term):
    """Tell whether a term is a number of more than eighteen figures."""
    return not term.is_variable() and is_number(term.value) and bounded(term.value) is None


def check_rule(rule):
    """Return a rule that is safe; BadRule for a bad name, a loose one, a sum of nothing; BadSize."""
    for name in (rule.name,) + rule.asked("pos") + rule.asked("neg"):
        if not is_name(name):
            raise BadRule(f"may not be told: {name}")
    if any([too_long(term) for term in all_terms(rule)]):
        raise BadSize(f"a number of more than eighteen figures: {rule.name}")
    names = loose(rule)
    if names != ():
        raise BadRule(f"loose in {rule.name}: {names[0]}")
    if reckoned_twice(rule):
        raise BadRule(f"reckoned, and bound besides: {rule.name}")
    if rule.summed is not None and rule.body == ():
        raise BadRule(f"a sum of nothing: {rule.name}")
    return rule


def is_fact(rule):
    """Tell whether a rule is a fact: no body and no variable."""
    return rule.body == () and names_in(rule.terms) == ()


def row_of(rule):
    """Return a fact's row; BadRule for a rule that is none."""
    if not is_fact(rule):
        raise BadRule(f"no fact: {rule.name}")
    return tuple([term.value for term in rule.terms])


def parted(rules):
    """Return (facts as (name, row), rules that are none), both in order; BadRule for one that isn't safe."""
    facts = []
    others = []
    for rule in rules:
        if is_fact(check_rule(rule)):
            facts.append((rule.name, row_of(rule)))
        else:
            others.append(rule)
    return tuple(facts), tuple(others)


def is_name(name):
    """Tell whether a word may be told: a small letter first, letters, figures and low strokes; not is none."""
    return is_small(name[:1]) and name != "not" and all([is_inner(sign) for sign in name])
