"""Readers: clauses read out of a text and told again."""

from deducehall.errors import BadRule, BadSign
from deducehall.rules import DEEDS, Rule, SIGNS, SUMS, held, let, neg, pos, summed_rule
from deducehall.signs import cut
from deducehall.terms import is_kept, told_term, val, var


class Clause:
    """What a text says in one sentence: a rule (a fact has no body), a bound or a question."""

    def __init__(self, kind, rule, body):
        self.kind = kind
        self.rule = rule
        self.body = tuple(body)

    def shown(self):
        """Return (kind, rule shown or None, literals shown)."""
        rule = None if self.rule is None else self.rule.shown()
        return self.kind, rule, tuple([part.shown() for part in self.body])


class Reader:
    """Signs and how far they are read."""

    def __init__(self, signs):
        self.signs = signs
        self.place = 0
        self.bare = 0

    def at_end(self):
        """Tell whether all is read."""
        return self.place >= len(self.signs)

    def here(self):
        """Return the sign here; BadSign at the end."""
        if self.at_end():
            raise BadSign("the text ends too soon")
        return self.signs[self.place]

    def is_here(self, said):
        """Tell whether a mark that says so is here."""
        return not self.at_end() and self.signs[self.place].is_mark(said)

    def is_behind(self, good):
        """Tell whether the sign behind the one here is one of some marks."""
        behind = self.place + 1
        return behind < len(self.signs) and any([self.signs[behind].is_mark(said) for said in good])

    def take(self, said):
        """Go past a mark; BadSign for another sign."""
        if not self.here().is_mark(said):
            raise BadSign(f"not here: {said}: {self.where()}")
        self.place += 1

    def where(self):
        """Return words that tell the place of the sign here."""
        sign = self.here()
        return f"row {sign.row}, column {sign.column}"

    def word(self):
        """Take a word; BadSign for another sign."""
        sign = self.here()
        if sign.kind != "word":
            raise BadSign(f"no word: {self.where()}")
        self.place += 1
        return sign.said

    def term(self):
        """Take a term; a low stroke alone is a variable of its own; BadSign for another sign."""
        sign = self.here()
        if sign.kind == "mark":
            raise BadSign(f"no term: {self.where()}")
        if sign.kind == "name" and is_kept(sign.said):
            raise BadSign(f"a kept name: {self.where()}")
        self.place += 1
        if sign.kind == "number":
            return val(int(sign.said))
        if sign.kind != "name":
            return val(sign.said)
        if sign.said == "_":
            self.bare += 1
            return var(f"_{self.bare}")
        return var(sign.said)

    def term_list(self):
        """Take terms in brackets, none without brackets."""
        if not self.is_here("("):
            return []
        self.take("(")
        terms = [self.term()]
        while self.is_here(","):
            self.take(",")
            terms.append(self.term())
        self.take(")")
        return terms

    def summed_here(self):
        """Tell whether a sum stands here: its word and a bracket that opens."""
        if self.at_end() or not self.is_behind(("(",)):
            return False
        sign = self.here()
        return sign.kind == "word" and sign.said in SUMS

    def head(self):
        """Take a head; return (name, terms, (place, kind) or None); BadSign for two sums."""
        name = self.word()
        if not self.is_here("("):
            return name, (), None
        self.take("(")
        terms = []
        summed = self.head_place(terms, None)
        while self.is_here(","):
            self.take(",")
            summed = self.head_place(terms, summed)
        self.take(")")
        return name, tuple(terms), summed

    def head_place(self, terms, summed):
        """Take one place of a head, its term behind the others; return (place, kind) of the sum so far or None."""
        if not self.summed_here():
            terms.append(self.term())
            return summed
        if summed is not None:
            raise BadSign(f"two sums: {self.where()}")
        kind = self.word()
        self.take("(")
        terms.append(self.term())
        self.take(")")
        return len(terms) - 1, kind

    def one_of(self, good):
        """Go past one of some marks and return what it says, None where none of them is here."""
        for said in good:
            if self.is_here(said):
                self.place += 1
                return said
        return None

    def held_or_let(self):
        """Take two terms with a sign between, or a variable that is reckoned."""
        one = self.term()
        if self.one_of((":=",)) is not None:
            return self.let_behind(one)
        sign = self.one_of(SIGNS)
        if sign is None:
            raise BadSign(f"no sign between two terms: {self.where()}")
        return held(sign, one, self.term())

    def let_behind(self, target):
        """Take what a term is reckoned from."""
        one = self.term()
        deed = self.one_of(DEEDS)
        if deed is None:
            raise BadSign(f"no deed between two terms: {self.where()}")
        return let(target, deed, one, self.term())

    def literal(self):
        """Take one part of a body."""
        if self.here().kind != "word" or self.is_behind(SIGNS):
            return self.held_or_let()
        word = self.word()
        if word == "not":
            word = self.word()
            return neg(word, self.term_list())
        return pos(word, self.term_list())

    def literals(self):
        """Take the parts of a body, commas between."""
        parts = [self.literal()]
        while self.is_here(","):
            self.take(",")
            parts.append(self.literal())
        return parts

    def clause(self):
        """Take one sentence and the point behind it."""
        self.bare = 0
        if self.one_of(("?-",)) is not None:
            return self.clause_of("ask")
        if self.one_of(("!",)) is not None:
            self.take(":-")
            return self.clause_of("bound")
        rule = self.rule_here()
        return Clause("rule", rule, rule.body)

    def clause_of(self, kind):
        """Take the body of an ask or a bound and the point behind it."""
        body = self.literals()
        self.take(".")
        return Clause(kind, None, body)

    def rule_here(self):
        """Take a rule and the point behind it."""
        name, terms, summed = self.head()
        body = []
        if self.one_of((":-",)) is not None:
            body = self.literals()
        self.take(".")
        if summed is None:
            return Rule(name, terms, body)
        return summed_rule(name, terms, body, summed[0], summed[1])


def read(text):
    """Return the clauses of a text; BadSign for another language, BadRule for a sum or reckoning of no variable."""
    reader = Reader(cut(text))
    clauses = []
    while not reader.at_end():
        clauses.append(reader.clause())
    return tuple(clauses)


def read_rule(text):
    """Return the one rule of a text; BadRule for another clause or several."""
    clauses = read(text)
    if len(clauses) != 1 or clauses[0].kind != "rule":
        raise BadRule("not just one rule")
    return clauses[0].rule


def in_brackets(name, places):
    """Return a name with what stands at its places, already written, in brackets, none for no places."""
    return name if places == [] else name + "(" + ", ".join(places) + ")"


def told_atom(name, terms):
    """Return a name with its terms as it is written."""
    return in_brackets(name, [told_term(term) for term in terms])


def told_literal(literal):
    """Return a literal as it is written."""
    if literal.kind == "pos":
        return told_atom(literal.name, literal.terms)
    if literal.kind == "neg":
        return "not " + told_atom(literal.name, literal.terms)
    parts = [told_term(term) for term in literal.terms]
    if literal.kind == "cmp":
        return f"{parts[0]} {literal.name} {parts[1]}"
    return f"{parts[0]} := {parts[1]} {literal.name} {parts[2]}"


def told_body(body):
    """Return a body as it is written."""
    return ", ".join([told_literal(part) for part in body])


def told_head(rule):
    """Return a rule's head as it is written, its sum's word and brackets round the summed place."""
    places = [told_term(term) for term in rule.terms]
    if rule.summed is not None:
        place, kind = rule.summed
        places[place] = f"{kind}({places[place]})"
    return in_brackets(rule.name, places)


def told_rule(rule):
    """Return a rule as it is written, its point behind it."""
    if rule.body == ():
        return told_head(rule) + "."
    return told_head(rule) + " :- " + told_body(rule.body) + "."


def told_clause(clause):
    """Return a clause as it is written."""
    if clause.kind == "rule":
        return told_rule(clause.rule)
    begun = "?- " if clause.kind == "ask" else "! :- "
    return begun + told_body(clause.body) + "."


def told(clauses):
    """Return clauses as they are written, a row each."""
    return "\n".join([told_clause(clause) for clause in clauses])
