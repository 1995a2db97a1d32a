"""The language, [6]: reading it and telling it again."""

import itertools
import re
import unittest

from deducehall.errors import BadRule, BadSign, DeduceFault
from deducehall.readers import (
    Clause, Reader, read, read_rule, told, told_atom, told_body, told_clause, told_literal, told_rule,
)
from deducehall.rules import Rule, held, let, neg, pos, summed_rule
from deducehall.signs import cut
from deducehall.terms import shown_all, val, var

X, Y = var("X"), var("Y")


def reader_of(text):
    return Reader(cut(text))


def shown(text):
    return [clause.shown() for clause in read(text)]


class ClausesTest(unittest.TestCase):
    def test_kinds(self):
        clauses = read("p(1). p(X) :- q(X). ?- p(X). ! :- p(2).")
        self.assertIsInstance(clauses, tuple)
        self.assertEqual([clause.kind for clause in clauses], ["rule", "rule", "ask", "bound"])
        self.assertEqual([clause.rule is None for clause in clauses], [False, False, True, True])
        self.assertEqual([len(clause.body) for clause in clauses], [0, 1, 1, 1])

    def test_shown(self):
        part = ("pos", "q", (("var", "X"),))
        self.assertEqual(shown("p(X) :- q(X)."), [("rule", ("p", (("var", "X"),), None, (part,)), (part,))])
        self.assertEqual(shown("?- q(X)."), [("ask", None, (part,))])
        self.assertEqual(shown("! :- q(X)."), [("bound", None, (part,))])
        self.assertEqual(shown("!:-q(X)."), [("bound", None, (part,))])
        self.assertEqual(shown("p."), [("rule", ("p", (), None, ()), ())])
        self.assertEqual(Clause("ask", None, [pos("q", [X])]).shown(), ("ask", None, (part,)))

    def test_nothing(self):
        self.assertEqual(read(""), ())
        self.assertEqual(read(" # remark\n"), ())

    def test_read_rule(self):
        part = ("pos", "q", (("var", "X"),))
        self.assertEqual(read_rule("p(X) :- q(X).").shown(), ("p", (("var", "X"),), None, (part,)))
        self.assertEqual(read_rule("p(1).").shown(), ("p", (("val", 1),), None, ()))
        for text in ("", "p. q.", "?- p.", "! :- p.", "p. ?- p."):
            with self.assertRaises(BadRule, msg=text):
                read_rule(text)
        with self.assertRaises(BadSign):
            read_rule("p(X")


class HeadsTest(unittest.TestCase):
    def test_with_and_without_brackets(self):
        self.assertEqual(reader_of("p").head(), ("p", (), None))
        name, terms, summed = reader_of("p(X, 1)").head()
        self.assertEqual((name, shown_all(terms), summed), ("p", (("var", "X"), ("val", 1)), None))
        for text in ("p().", "p(.", "p(X.", "p(X,).", "p(X Y).", "p)."):
            with self.assertRaises(BadSign, msg=text):
                read(text)

    def test_a_head_is_a_word(self):
        for text in ("P(X).", "'p'(X).", "1.", "(X).", "_.", "-1."):
            with self.assertRaises(BadSign, msg=text):
                read(text)

    def test_a_sum_at_each_place(self):
        for place, kind in itertools.product(range(3), ("count", "sum", "least", "most")):
            places = ["A", "B", "C"]
            places[place] = f"{kind}({places[place]})"
            rule = read_rule(f"p({', '.join(places)}) :- q(A, B, C).")
            self.assertEqual(rule.summed, (place, kind))
            self.assertEqual(shown_all(rule.terms), (("var", "A"), ("var", "B"), ("var", "C")))
        self.assertEqual(read_rule("p(count(_)) :- q(_).").summed, (0, "count"))

    def test_head_gives_the_sum(self):
        name, terms, summed = reader_of("p(X, sum(Y))").head()
        self.assertEqual((name, shown_all(terms), summed), ("p", (("var", "X"), ("var", "Y")), (1, "sum")))

    def test_two_sums(self):
        for text in ("p(count(X), sum(Y)) :- q(X, Y).", "p(sum(X), sum(X)) :- q(X).", "p(sum(1), A, sum(2)) :- q(A)."):
            with self.assertRaises(BadSign, msg=text):
                read(text)

    def test_a_sum_of_no_variable(self):
        for text in ("p(count(1)) :- q(X).", "p(X, sum(a)) :- q(X).", "p(least('X')) :- q(X).", "p(most(-1))."):
            with self.assertRaises(BadRule, msg=text):
                read(text)

    def test_what_is_no_sum(self):
        self.assertEqual(read_rule("p(count).").shown(), ("p", (("val", "count"),), None, ()))
        self.assertEqual(read_rule("sum(X) :- q(X).").name, "sum")
        for text in ("p(count()) :- q(X).", "p(count(X, Y)) :- q(X, Y).", "p(mean(X)) :- q(X).", "p(count(X) :- q(X).",
                     "p('count'(X)) :- q(X).", "p :- q(count(X)).", "p(count(sum(X))) :- q(X)."):
            with self.assertRaises(BadSign, msg=text):
                read(text)

    def test_summed_here(self):
        self.assertIs(reader_of("count(X)").summed_here(), True)
        for text in ("count", "count, X", "mean(X)", "Count(X)", "'count'(X)", "", "("):
            self.assertIs(reader_of(text).summed_here(), False, text)


class PartsTest(unittest.TestCase):
    def part(self, text):
        reader = reader_of(text)
        literal = reader.literal()
        self.assertTrue(reader.at_end(), text)
        return literal.shown()

    def test_names(self):
        self.assertEqual(self.part("q"), ("pos", "q", ()))
        self.assertEqual(self.part("q(X, a)"), ("pos", "q", (("var", "X"), ("val", "a"))))
        self.assertEqual(self.part("not q"), ("neg", "q", ()))
        self.assertEqual(self.part("not q(X)"), ("neg", "q", (("var", "X"),)))
        self.assertEqual(self.part("count(X)"), ("pos", "count", (("var", "X"),)))
        self.assertEqual(self.part("nota(X)"), ("pos", "nota", (("var", "X"),)))

    def test_each_sign(self):
        for sign in ("<", "<=", "=", "!="):
            self.assertEqual(self.part(f"X {sign} 1"), ("cmp", sign, (("var", "X"), ("val", 1))))
            self.assertEqual(self.part(f"X{sign}-1"), ("cmp", sign, (("var", "X"), ("val", -1))))

    def test_each_deed(self):
        for deed in ("+", "-", "*"):
            self.assertEqual(self.part(f"X := Y {deed} 1"), ("let", deed, (("var", "X"), ("var", "Y"), ("val", 1))))
            self.assertEqual(self.part(f"X:=-2{deed}-1"), ("let", deed, (("var", "X"), ("val", -2), ("val", -1))))

    def test_words_ahead_of_a_sign(self):
        for sign in ("<", "<=", "=", "!="):
            self.assertEqual(self.part(f"ab {sign} X"), ("cmp", sign, (("val", "ab"), ("var", "X"))))
            self.assertEqual(self.part(f"'a b' {sign} X"), ("cmp", sign, (("val", "a b"), ("var", "X"))))
            self.assertEqual(self.part(f"not {sign} X"), ("cmp", sign, (("val", "not"), ("var", "X"))))
            self.assertEqual(self.part(f"5 {sign} not"), ("cmp", sign, (("val", 5), ("val", "not"))))

    def test_a_reckoning_of_no_variable(self):
        for text in ("p :- 1 := 2 + 3.", "p(X) :- q(X), 'a' := X + 1.", "?- -1 := 2 * 3."):
            with self.assertRaises(BadRule, msg=text):
                read(text)

    def test_wrong_parts(self):
        for part in ("", "X", "1", "'a'", "X :=", "X := Y", "X := Y <", "X := Y + ", "X < ", "< X", "X + Y", "X := + Y",
                     "not", "not X", "not 'a'", "not a < 1", "q(X) <  1", "a := 1 + 2", "q X", "not(X)",
                     "X < Y < 1", "X = = 1", "X 1", "X a", "X := Y 1", "X := Y a", "X := 1 + 2 + 3", "'q'(X)",
                     "Q(X)", "q()", "q(q(X))", "X ! Y", "q,",
                     ", q", "q, , r", ":- q"):
            for text in (f"p :- {part}.", f"?- {part}.", f"! :- {part}."):
                with self.assertRaises(BadSign, msg=text):
                    read(text)

    def test_a_body_has_a_part(self):
        for text in ("p :- .", "?- .", "! :- .", "p :-", "?-", "!", "! :-", "! p.", "! - p."):
            with self.assertRaises(BadSign, msg=text):
                read(text)

    def test_points(self):
        for text in ("p", "p(X) :- q(X)", "?- q", "! :- q", "p..", ".", "p :- q :- r.", "p. .", "p, q.", "p ?- q."):
            with self.assertRaises(BadSign, msg=text):
                read(text)


class LowStrokesTest(unittest.TestCase):
    def test_each_is_a_variable_of_its_own(self):
        rule = read_rule("p(_, X) :- q(_, _), not r(_), _ < _, _ := _ + _.")
        self.assertEqual(rule.names(), tuple(["_1", "X"] + [f"_{number}" for number in range(2, 10)]))
        self.assertEqual(rule.terms[0].name, "_1")
        self.assertEqual(rule.body[3].names(), ("_7", "_8", "_9"))

    def test_counted_within_each_clause(self):
        clauses = read("p(_) :- q(_). ?- q(_), r(_). ! :- r(X, _). p(_, X) :- q(X).")
        self.assertEqual(clauses[0].rule.names(), ("_1", "_2"))
        self.assertEqual([part.names() for part in clauses[1].body], [("_1",), ("_2",)])
        self.assertEqual(clauses[2].body[0].names(), ("X", "_1"))
        self.assertEqual(clauses[3].rule.names(), ("_1", "X"))

    def test_with_figures_refused(self):
        for text in ("p(_1).", "p(_0) :- q(_0).", "?- q(_12).", "! :- _1 < 2.", "p(_007)."):
            with self.assertRaises(BadSign, msg=text):
                read(text)

    def test_other_names_with_low_strokes(self):
        self.assertEqual(read_rule("p(_a, __, _1a, __1, _a) :- q(_).").names(), ("_a", "__", "_1a", "__1", "_1"))

    def test_told_again(self):
        text = "p(_, X) :- q(_, X, _a), not r(_)."
        self.assertEqual(told_rule(read_rule(text)), text)


class ReaderTest(unittest.TestCase):
    def test_fields(self):
        signs = cut("p.")
        reader = Reader(signs)
        self.assertEqual((tuple(reader.signs), reader.place, reader.bare), (signs, 0, 0))

    def test_going_on(self):
        reader = reader_of("p (")
        self.assertIs(reader.at_end(), False)
        self.assertEqual(reader.here().said, "p")
        self.assertIs(reader.is_here("p"), False)
        self.assertEqual(reader.word(), "p")
        self.assertIs(reader.is_here("("), True)
        self.assertIs(reader.is_here(")"), False)
        with self.assertRaises(BadSign):
            reader.take(")")
        with self.assertRaises(BadSign):
            reader.word()
        reader.take("(")
        self.assertIs(reader.at_end(), True)
        self.assertIs(reader.is_here("("), False)

    def test_the_end(self):
        for ask in (lambda r: r.here(), lambda r: r.take("("), lambda r: r.word(), lambda r: r.term(),
                    lambda r: r.head(), lambda r: r.literal(), lambda r: r.literals(), lambda r: r.clause(),
                    lambda r: r.held_or_let()):
            with self.assertRaises(BadSign):
                ask(Reader(()))

    def test_terms(self):
        reader = reader_of("-5 X _ a 'B c' 007 _ not")
        found = [reader.term().shown() for _ in range(8)]
        self.assertEqual(found, [("val", -5), ("var", "X"), ("var", "_1"), ("val", "a"), ("val", "B c"), ("val", 7),
                                 ("var", "_2"), ("val", "not")])
        for text in ("(", ",", "_1", "-"):
            with self.assertRaises(BadSign):
                reader_of(text).term()

    def test_term_list(self):
        self.assertEqual(reader_of(".").term_list(), [])
        self.assertEqual(Reader(()).term_list(), [])
        found = reader_of("(X, 1)").term_list()
        self.assertIsInstance(found, list)
        self.assertEqual(shown_all(found), (("var", "X"), ("val", 1)))
        for text in ("()", "(X", "(X,", "(X,)", "(,X)"):
            with self.assertRaises(BadSign):
                reader_of(text).term_list()

    def test_literals(self):
        found = reader_of("p, not q, X < 1").literals()
        self.assertIsInstance(found, list)
        self.assertEqual([part.kind for part in found], ["pos", "neg", "cmp"])

    def test_held_or_let(self):
        self.assertEqual(reader_of("X = a").held_or_let().kind, "cmp")
        self.assertEqual(reader_of("X := 1 * 2").held_or_let().kind, "let")
        for text in ("X := 1 = 2", "X := 1 .", "X , 1", "X"):
            with self.assertRaises(BadSign):
                reader_of(text).held_or_let()

    def test_clause(self):
        reader = reader_of("p. ?- q.")
        self.assertEqual(reader.clause().kind, "rule")
        self.assertEqual(reader.clause().kind, "ask")
        self.assertIs(reader.at_end(), True)


class ToldTest(unittest.TestCase):
    def test_atoms(self):
        self.assertEqual(told_atom("p", ()), "p")
        self.assertEqual(told_atom("p", [X, val("a b"), val(-1), var("_3")]), "p(X, 'a b', -1, _)")
        self.assertEqual(told_atom("count", [X]), "count(X)")

    def test_literals(self):
        self.assertEqual(told_literal(pos("p", [X])), "p(X)")
        self.assertEqual(told_literal(neg("p", [])), "not p")
        self.assertEqual(told_literal(held("<=", val("count"), X)), "'count' <= X")
        self.assertEqual(told_literal(let(X, "*", val(-2), Y)), "X := -2 * Y")
        self.assertEqual(told_body([pos("p", []), held("=", X, Y)]), "p, X = Y")

    def test_rules(self):
        self.assertEqual(told_rule(Rule("p", [], [])), "p.")
        self.assertEqual(told_rule(Rule("p", [val(1)], [])), "p(1).")
        self.assertEqual(told_rule(Rule("p", [X], [pos("q", [X]), neg("r", [])])), "p(X) :- q(X), not r.")
        self.assertEqual(told_rule(summed_rule("p", [X, Y], [pos("q", [X, Y])], 0, "least")),
                         "p(least(X), Y) :- q(X, Y).")

    def test_clauses(self):
        body = [pos("q", [X]), held("<", X, val(3))]
        self.assertEqual(told_clause(Clause("ask", None, body)), "?- q(X), X < 3.")
        self.assertEqual(told_clause(Clause("bound", None, body)), "! :- q(X), X < 3.")
        self.assertEqual(told_clause(Clause("rule", Rule("p", [X], body), body)), "p(X) :- q(X), X < 3.")

    def test_a_row_each(self):
        self.assertEqual(told(read("a.b:-not a,X:=1+2,X<=3.  # r\n?-a. !:-b.")),
                         "a.\nb :- not a, X := 1 + 2, X <= 3.\n?- a.\n! :- b.")
        self.assertEqual(told(()), "")

    def test_read_again_it_is_the_same(self):
        texts = (
            "p(X, 'A', -5, 'it\\'s\\n', '', '\\\\', 'not', 'sum') :- q(_, X, _), not r(_), X < -1.",
            "p(count(_)) :- q(_). p(X, most(Y)) :- q(X, Y), Y := X - -1, Z := -1 * -2, 'a b' != Z.",
            "?- 'not' < X, p(X), not q. ! :- count(X), sum(Y), least(X), most(Y), abc = X.",
            "a. a(0). ?- -1 < X, q(X). b :- -1 <= 1.",
        )
        for text in texts:
            once = read(text)
            again = read(told(once))
            self.assertEqual([clause.shown() for clause in again], [clause.shown() for clause in once])
            self.assertEqual(told(again), told(once))


class CutOffTest(unittest.TestCase):
    TEXT = ("p(X, count(Y)) :- q(X, _, 'it\\'s'), not r(_), X < -1, Y := X - -12. # r\n"
            "q(1). ?- a, 'b' != X. ! :- q(X), not c.")

    def test_anywhere(self):
        ends = [place for place in range(len(self.TEXT)) if self.TEXT[place] == "."]
        whole = shown(self.TEXT)
        for many in range(len(self.TEXT)):
            text = self.TEXT[:many]
            clauses = len([end for end in ends if end < many])
            last = max([end + 1 for end in ends if end < many], default=0)
            if re.sub("#[^\n]*", "", text[last:]).strip() == "":
                self.assertEqual(shown(text), whole[:clauses])
            else:
                with self.assertRaises(BadSign, msg=text):
                    read(text)

    def test_one_sign_left_out(self):
        for many in range(len(self.TEXT)):
            text = self.TEXT[:many] + self.TEXT[many + 1:]
            try:
                clauses = read(text)
            except DeduceFault:
                continue
            self.assertEqual(shown(told(clauses)), [clause.shown() for clause in clauses])


if __name__ == "__main__":
    unittest.main()
