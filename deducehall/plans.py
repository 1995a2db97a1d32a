"""Plans: in which order the parts of a body are taken."""

from deducehall.errors import BadRule
from deducehall.safety import gives, ready


class Plan:
    """A rule's parts in the order in which they are taken, and the names bound ahead of each."""

    def __init__(self, rule, order, given):
        self.rule = rule
        self.order = tuple(order)
        self.given = tuple(given)
        # A part that could not come by itself, but stands first, was told to come first.
        self.told_first = not all([ready(rule, number, self.given) for number in self.order[:1]])

    def bound_at(self, step):
        """Return the names bound ahead of a step, in order."""
        taken = [gives(self.rule, number) for number in self.order[:step]]
        if self.told_first and taken != []:
            taken[0] = binds(self.rule, self.order[0])
        return tuple(bound_by(self.given, taken))

    def known_places(self, step):
        """Return the places of a step's part that have a value by then."""
        return known_at(self.rule, self.order[step], self.bound_at(step))

    def shown(self):
        """Return (order, places known at each step)."""
        return self.order, tuple([self.known_places(step) for step in range(len(self.order))])


def known_at(rule, number, bound):
    """Return the places of a part that have a value where some names are bound."""
    return tuple([place for place, term in enumerate(rule.body[number].terms) if term.known(bound)])


def weight(rule, number, bound, sizes):
    """Return what parts are chosen by, the least first: kept for those that only test, then places known, then size."""
    part = rule.body[number]
    if part.kind != "pos":
        return 0, 0, 0, number
    known = len(known_at(rule, number, bound))
    if known == len(part.terms):
        return 1, 0, 0, number
    return 2, -known, sizes.get(part.name, 0), number


def bound_by(given, taken):
    """Return a table of the names bound by some given ones and by rows of others, in order."""
    bound = {}
    for names in [given] + taken:
        for name in names:
            bound[name] = True
    return bound


def plan(rule, sizes, first=None, given=()):
    """Return a plan, one part first if told, names given bound; BadRule for a rule that can't be planned."""
    order = [] if first is None else [first]
    taken = [binds(rule, number) for number in order]
    while len(order) < len(rule.body):
        number = lightest(rule, order, bound_by(given, taken), sizes)
        order.append(number)
        taken.append(gives(rule, number))
    found = Plan(rule, order, given)
    found.told_first = first is not None
    return found


def lightest(rule, order, bound, sizes):
    """Return the part that comes next behind those of an order; BadRule where none may."""
    left = next_parts(rule, order, bound)
    if left == []:
        raise BadRule(f"no plan: {rule.name}")
    return min([weight(rule, number, bound, sizes) for number in left])[-1]


def next_parts(rule, order, bound):
    """Return the parts that may come next behind those of an order, as written."""
    return [number for number in range(len(rule.body)) if number not in order and ready(rule, number, bound)]


def binds(rule, number):
    """Return the names that a part binds when it is taken first: all of a not's."""
    part = rule.body[number]
    return part.names() if part.kind == "neg" else gives(rule, number)


def bound_behind(rule, order, given):
    """Return a table of the names bound behind the parts of an order."""
    return bound_by(given, [gives(rule, number) for number in order])


def is_plan(rule, order, given=()):
    """Tell whether an order takes each part once, each when its needs are bound."""
    if sorted(order) != list(range(len(rule.body))):
        return False
    for step, number in enumerate(order):
        if not ready(rule, number, bound_behind(rule, order[:step], given)):
            return False
    return True


def all_plans(rule, given=()):
    """Return all orders that are plans, in order; for bodies of up to six parts."""
    orders = [()]
    for _ in rule.body:
        longer = []
        for order in orders:
            for number in next_parts(rule, order, bound_behind(rule, order, given)):
                longer.append(order + (number,))
        orders = longer
    return tuple(orders)
