"""Terms: values and variables, their order, bindings, matching and making alike."""

from deducehall.errors import NoSuch
from deducehall.signs import is_figure, is_inner, is_small, marked

# Words that the language has for itself: bare they would be read as something else than values.
OWN_WORDS = ("not", "count", "sum", "least", "most")


class Term:
    """A variable by its name, or a value: a number or a word."""

    def __init__(self, name, value=None):
        self.name = name
        self.value = value

    def is_variable(self):
        """Tell whether it is a variable."""
        return self.name != ""

    def shown(self):
        """Return ("var", name) or ("val", value)."""
        return ("var", self.name) if self.is_variable() else ("val", self.value)

    def under(self, bound):
        """Return its value under a binding; NoSuch for a variable that isn't bound."""
        if not self.is_variable():
            return self.value
        if self.name not in bound:
            raise NoSuch(f"not bound: {self.name}")
        return bound[self.name]

    def known(self, bound):
        """Tell whether it has a value under a binding."""
        return not self.is_variable() or self.name in bound


def var(name):
    """Return the variable of a name."""
    return Term(name)


def val(value):
    """Return the term of a value."""
    return Term("", value)


def is_number(value):
    """Tell whether a value is a number."""
    return isinstance(value, int)


def value_key(value):
    """Return what values are ordered by: (0, number, "") for a number, (1, 0, word) for a word."""
    return (0, value, "") if is_number(value) else (1, 0, value)


def row_key(row):
    """Return what rows of values are ordered by: value by value, the shorter first."""
    return tuple([value_key(value) for value in row])


def bound_key(bound):
    """Return what bindings are told apart by: pairs of a name and its value's key, in order of the names."""
    return tuple([(name, value_key(bound[name])) for name in sorted(bound)])


def in_order(rows):
    """Return rows in order."""
    return tuple(sorted(rows, key=row_key))


def names_in(terms):
    """Return the variables' names in order of their first places."""
    names = {}
    for term in terms:
        if term.is_variable():
            names[term.name] = True
    return tuple(names)


def filled(terms, bound):
    """Return the row that terms tell under a binding; NoSuch for a variable that isn't bound."""
    return tuple([term.under(bound) for term in terms])


def matched(terms, row, bound):
    """Return the binding widened so that terms tell a row, None where none does."""
    if len(terms) != len(row):
        return None
    wider = dict(bound)
    for term, value in zip(terms, row):
        if not term.known(wider):
            wider[term.name] = value
        elif term.under(wider) != value:
            return None
    return wider


def pattern(terms, bound):
    """Return (places, values) of the terms that have a value under a binding."""
    places = tuple([place for place, term in enumerate(terms) if term.known(bound)])
    return places, tuple([terms[place].under(bound) for place in places])


def led_to(term, links):
    """Return the term that a term leads to by links of names to terms."""
    while term.is_variable() and term.name in links:
        term = links[term.name]
    return term


def made_alike(one, other):
    """Return links of names to terms that make two rows of terms alike, None where none do."""
    if len(one) != len(other):
        return None
    links = {}
    for here, there in zip(one, other):
        left, right = led_to(here, links), led_to(there, links)
        # A name linked to itself would lead on without an end.
        if left.shown() == right.shown():
            continue
        if left.is_variable():
            links[left.name] = right
        elif right.is_variable():
            links[right.name] = left
        else:
            return None
    return links


def put_in(terms, links):
    """Return terms with links put in, as far as they lead."""
    return tuple([led_to(term, links) for term in terms])


def shown_all(terms):
    """Return what the terms show."""
    return tuple([term.shown() for term in terms])


def renamed(terms, names):
    """Return terms with names changed by a table, all at once; those not in it stay."""
    return tuple([var(names[term.name]) if term.is_variable() and term.name in names else term for term in terms])


def is_plain(word):
    """Tell whether a word is written bare: a small letter first, letters, figures and low strokes behind."""
    if not is_small(word[:1]) or word in OWN_WORDS:
        return False
    return all([is_inner(sign) for sign in word])


def told_value(value):
    """Return a value as it is written: a number in figures, a plain word bare, another in marks."""
    if is_number(value):
        return str(value)
    return value if is_plain(value) else marked(value)


def is_kept(name):
    """Tell whether a name is a low stroke and figures: one that a low stroke alone was read as."""
    return name[:1] == "_" and len(name) > 1 and all([is_figure(sign) for sign in name[1:]])


def told_term(term):
    """Return a term as it is written, a kept name as a low stroke alone."""
    if not term.is_variable():
        return told_value(term.value)
    return "_" if is_kept(term.name) else term.name
