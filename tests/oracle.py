"""What tests hold the program against: bodies, models and sums worked out the long way, and drawn rules."""

import itertools

from deducehall.errors import DeduceFault
from deducehall.layers import check_layers
from deducehall.readers import read
from deducehall.rules import Rule, held, let, neg, pos, summed_rule
from deducehall.safety import check_rule
from deducehall.terms import val, var

MOST = 10 ** 18 - 1


def rules_of(text):
    return tuple(clause.rule for clause in read(text))


def facts_of(text):
    return tuple((rule.name, tuple(term.value for term in rule.terms)) for rule in rules_of(text))


def place_key(value):
    return (0, value, "") if isinstance(value, int) else (1, 0, value)


def row_key(row):
    return [place_key(value) for value in row]


def fits(terms, row, bound):
    """Return the binding that a row makes of terms over a binding, None for none."""
    if len(terms) != len(row):
        return None
    found = dict(bound)
    for term, value in zip(terms, row):
        if term.name == "":
            if term.value != value:
                return None
        elif found.setdefault(term.name, value) != value:
            return None
    return found


def worth(term, bound):
    return term.value if term.name == "" else bound[term.name]


def open_names(rule):
    rows = [{term.name for term in rule.terms}] + [{term.name for term in part.terms} for part in rule.body]
    return {name for row, part in zip(rows[1:], rule.body) if part.kind == "neg"
            for name in row if sum(name in other for other in rows) == 1}


def sign_holds(sign, one, other):
    left, right = place_key(one), place_key(other)
    return {"<": left < right, "<=": left <= right, "=": left == right, "!=": left != right}[sign]


def reckon(deed, one, other):
    if not isinstance(one, int) or not isinstance(other, int):
        return None
    found = {"+": one + other, "-": one - other, "*": one * other}[deed]
    return found if -MOST <= found <= MOST else None


def all_bounds(rule, table, start=None):
    """Return all bindings under which a body holds over a table of names to rows."""
    asked = [part for part in rule.body if part.kind == "pos"]
    lets = [part for part in rule.body if part.kind == "let"]
    found = []
    for rows in itertools.product(*[table.get(part.name, ()) for part in asked]):
        bound = dict(start or {})
        for part, row in zip(asked, rows):
            bound = None if bound is None else fits(part.terms, row, bound)
        if bound is not None:
            bound = with_lets(lets, bound)
        if bound is not None and tests_hold(rule, table, bound) and bound not in found:
            found.append(bound)
    return found


def with_lets(lets, bound):
    left = list(lets)
    while left:
        ready = [part for part in left if all(term.name == "" or term.name in bound for term in part.terms[1:])]
        part = ready[0]
        left.remove(part)
        value = reckon(part.name, worth(part.terms[1], bound), worth(part.terms[2], bound))
        name = part.terms[0].name
        if value is None or bound.get(name, value) != value:
            return None
        bound[name] = value
    return bound


def tests_hold(rule, table, bound):
    free = open_names(rule)
    known = {name: value for name, value in bound.items() if name not in free}
    for part in rule.body:
        if part.kind == "cmp" and not sign_holds(part.name, *[worth(term, bound) for term in part.terms]):
            return False
        if part.kind == "neg" and any(fits(part.terms, row, known) is not None for row in table.get(part.name, ())):
            return False
    return True


def sum_of(kind, values):
    if kind == "count":
        return len(values)
    if kind == "sum":
        found = None if any(isinstance(value, str) for value in values) else sum(values)
        return found if found is not None and -MOST <= found <= MOST else None
    return (min if kind == "least" else max)(values, key=place_key)


def told_by(rule, table):
    """Return the rows that a rule tells over a table of names to rows."""
    bounds = all_bounds(rule, table)
    if rule.summed is None:
        return {tuple(worth(term, bound) for term in rule.terms) for bound in bounds}
    place, kind = rule.summed
    groups = {}
    for bound in bounds:
        row = tuple(worth(term, bound) for term in rule.terms)
        groups.setdefault((row[:place], row[place + 1:]), []).append(row[place])
    found = {group: sum_of(kind, values) for group, values in groups.items()}
    return {ahead + (value,) + behind for (ahead, behind), value in found.items() if value is not None}


def model_of(rules, facts):
    """Return the least model, ring by ring, as a table of names to sets of rows, none bare."""
    table = {}
    for name, row in facts:
        table.setdefault(name, set()).add(row)
    for ring in check_layers(rules):
        news = True
        while news:
            news = False
            for rule in rules:
                if rule.name in ring:
                    more = told_by(rule, table) - table.get(rule.name, set())
                    if more:
                        table.setdefault(rule.name, set()).update(more)
                        news = True
    return table


def shown(table):
    return tuple((name, tuple(sorted(table[name], key=row_key))) for name in sorted(table) if table[name])


# Drawn rules: names a and b have facts alone, the others may have both; places by these counts.
COUNTS = {"a": 1, "b": 2, "p": 1, "q": 2, "r": 2, "s": 1, "z": 0}
VALUES = (1, 2, -3, "x", "y")


def drawn_row(chosen, count):
    return tuple(chosen.choice(VALUES) for _ in range(count))


def drawn_fact(chosen, names="aabbbpqrsz"):
    name = chosen.choice(names)
    return name, drawn_row(chosen, COUNTS[name])


def drawn_steps(chosen, many, there):
    """Return (name, row, came) steps of drawn facts: what is there goes, what isn't comes."""
    facts = sorted({drawn_fact(chosen) for _ in range(many)}, key=repr)
    return [(name, row, not there(name, row)) for name, row in facts]


def drawn_term(chosen):
    return val(chosen.choice(VALUES)) if chosen.random() < 0.12 else var(chosen.choice("XYZW"))


def drawn_part(chosen):
    kind = chosen.choice(("pos", "pos", "pos", "pos", "neg", "cmp", "let"))
    if kind == "cmp":
        return held(chosen.choice(("<", "<=", "=", "!=")), drawn_term(chosen), drawn_term(chosen))
    if kind == "let":
        return let(var(chosen.choice("XYZWN")), chosen.choice("+-*"), drawn_term(chosen), drawn_term(chosen))
    name = chosen.choice("aabbbpqrsz")
    return (pos if kind == "pos" else neg)(name, [drawn_term(chosen) for _ in range(COUNTS[name])])


def drawn_rule(chosen):
    """Return a drawn rule that is safe."""
    while True:
        name = chosen.choice("ppqqrrsz")
        terms = [drawn_term(chosen) for _ in range(COUNTS[name])]
        body = [drawn_part(chosen) for _ in range(chosen.randint(1, 3))]
        try:
            if terms and chosen.random() < 0.2:
                place = chosen.randrange(len(terms))
                kind = chosen.choice(("count", "sum", "least", "most"))
                return check_rule(summed_rule(name, terms, body, place, kind))
            return check_rule(Rule(name, terms, body))
        except DeduceFault:
            continue


def drawn_rules(chosen, many, plain=False):
    """Return drawn rules that can be laid; plain ones only ask for rows and test."""
    rules = []
    tries = 0
    while len(rules) < many and tries < 200:
        tries += 1
        rule = drawn_rule(chosen)
        if plain and (rule.summed or rule.reckons() or rule.asked("neg")):
            continue
        try:
            check_layers(rules + [rule])
        except DeduceFault:
            continue
        rules.append(rule)
    return tuple(rules)
