"""Terms, [2], [3] and [5]: order, matching, making alike, values as they are written."""

import itertools
import unittest

from deducehall.errors import NoSuch
from deducehall.signs import cut
from deducehall.terms import (
    Term, bound_key, filled, in_order, is_kept, is_number, is_plain, led_to, made_alike, matched, names_in, pattern,
    put_in, renamed, row_key, shown_all, told_term, told_value, val, value_key, var,
)

X, Y, Z, W = var("X"), var("Y"), var("Z"), var("W")


class TermTest(unittest.TestCase):
    def test_variables(self):
        term = Term("X")
        self.assertEqual((term.name, term.value), ("X", None))
        self.assertIs(term.is_variable(), True)
        self.assertEqual(term.shown(), ("var", "X"))
        self.assertEqual(var("_1").shown(), ("var", "_1"))

    def test_values(self):
        term = Term("", 5)
        self.assertEqual((term.name, term.value), ("", 5))
        self.assertIs(term.is_variable(), False)
        self.assertEqual(term.shown(), ("val", 5))
        self.assertEqual(val("X").shown(), ("val", "X"))
        self.assertEqual(val("").shown(), ("val", ""))
        self.assertEqual(val(0).shown(), ("val", 0))

    def test_under(self):
        self.assertEqual(X.under({"X": 3, "Y": 4}), 3)
        self.assertEqual(X.under({"X": 0}), 0)
        self.assertEqual(X.under({"X": ""}), "")
        self.assertEqual(val("X").under({"X": 3}), "X")
        self.assertEqual(val(0).under({}), 0)
        for bound in ({}, {"Y": 3}, {"x": 3}):
            with self.assertRaises(NoSuch):
                X.under(bound)

    def test_known(self):
        self.assertIs(X.known({"X": 0}), True)
        self.assertIs(X.known({"Y": 0}), False)
        self.assertIs(val("X").known({}), True)

    def test_is_number(self):
        for value in (0, -5, 10 ** 30):
            self.assertIs(is_number(value), True)
        for value in ("", "1", "a"):
            self.assertIs(is_number(value), False)


class OrderTest(unittest.TestCase):
    def test_keys(self):
        self.assertEqual(value_key(-7), (0, -7, ""))
        self.assertEqual(value_key("ab"), (1, 0, "ab"))
        self.assertEqual(row_key((1, "1")), ((0, 1, ""), (1, 0, "1")))
        self.assertEqual(row_key(()), ())

    def test_bound_key(self):
        self.assertEqual(bound_key({"Y": 1, "X": "1"}), (("X", (1, 0, "1")), ("Y", (0, 1, ""))))
        self.assertEqual(bound_key({}), ())
        self.assertNotEqual(bound_key({"X": 1}), bound_key({"X": "1"}))

    def test_numbers_first_by_size_then_words_sign_by_sign(self):
        rows = [("b",), ("a",), ("",), ("B",), ("ab",), ("10",), (10,), (9,), (-1,), (0,), ("9",)]
        self.assertEqual(in_order(rows), (
            (-1,), (0,), (9,), (10,), ("",), ("10",), ("9",), ("B",), ("a",), ("ab",), ("b",)))

    def test_the_shorter_first(self):
        rows = [(1, 2), (1,), (), (1, "a"), (0, 9, 9), (1, 1)]
        self.assertEqual(in_order(rows), ((), (0, 9, 9), (1,), (1, 1), (1, 2), (1, "a")))

    def test_all_orders_give_one(self):
        rows = [(1,), ("1",), (1, 0), (-1,)]
        for order in itertools.permutations(rows):
            self.assertEqual(in_order(order), ((-1,), (1,), (1, 0), ("1",)))

    def test_what_is_handed_in_stays(self):
        rows = [(2,), (1,)]
        self.assertIsInstance(in_order(rows), tuple)
        self.assertEqual(rows, [(2,), (1,)])
        self.assertEqual(in_order([]), ())


class NamesTest(unittest.TestCase):
    def test_by_first_places(self):
        self.assertEqual(names_in((Y, val("Z"), X, Y, val(1), Z, X)), ("Y", "X", "Z"))
        self.assertEqual(names_in([]), ())
        self.assertEqual(names_in([val("X")]), ())

    def test_renamed_all_at_once(self):
        swapped = renamed((X, Y, Z, val("X")), {"X": "Y", "Y": "X"})
        self.assertEqual(shown_all(swapped), (("var", "Y"), ("var", "X"), ("var", "Z"), ("val", "X")))
        self.assertIsInstance(swapped, tuple)
        self.assertEqual(shown_all(renamed([X, Y], {"X": "Y"})), (("var", "Y"), ("var", "Y")))

    def test_shown_all(self):
        self.assertEqual(shown_all([X, val(1)]), (("var", "X"), ("val", 1)))
        self.assertEqual(shown_all(()), ())


class MatchingTest(unittest.TestCase):
    def test_filled(self):
        self.assertEqual(filled((X, val("a"), X), {"X": 2}), (2, "a", 2))
        self.assertEqual(filled([], {}), ())
        with self.assertRaises(NoSuch):
            filled((val(1), X), {"Y": 2})

    def test_matched(self):
        self.assertEqual(matched((X, val("a"), Y), (1, "a", "b"), {}), {"X": 1, "Y": "b"})
        self.assertEqual(matched((X,), (1,), {"Y": 2}), {"X": 1, "Y": 2})
        self.assertEqual(matched((), (), {"Y": 2}), {"Y": 2})
        self.assertEqual(matched((), (), {}), {})

    def test_not_matched(self):
        self.assertIsNone(matched((val(1),), ("1",), {}))
        self.assertIsNone(matched((val("1"),), (1,), {}))
        self.assertIsNone(matched((X,), (), {}))
        self.assertIsNone(matched((X,), (1, 2), {}))
        self.assertIsNone(matched((X, Y), (1,), {}))
        self.assertIsNone(matched((), (1,), {}))
        self.assertIsNone(matched((X,), (1,), {"X": 2}))
        self.assertIsNone(matched((X,), (1,), {"X": "1"}))

    def test_one_name_at_several_places(self):
        self.assertEqual(matched((X, Y, X), (1, 2, 1), {}), {"X": 1, "Y": 2})
        self.assertIsNone(matched((X, Y, X), (1, 2, 3), {}))
        self.assertIsNone(matched((X, X), (1, "1"), {}))

    def test_the_binding_handed_in_stays(self):
        bound = {"Y": 5}
        found = matched((X, Y), (1, 5), bound)
        self.assertEqual(found, {"X": 1, "Y": 5})
        self.assertEqual(bound, {"Y": 5})
        self.assertIsNone(matched((X, Y), (1, 6), bound))
        self.assertEqual(bound, {"Y": 5})
        same = matched((Y,), (5,), bound)
        same["Z"] = 1
        self.assertEqual(bound, {"Y": 5})

    def test_values_that_are_nought_or_bare_are_bound(self):
        self.assertEqual(matched((X, X), (0, 0), {}), {"X": 0})
        self.assertIsNone(matched((X, X), (0, 1), {}))
        self.assertIsNone(matched((X,), (1,), {"X": ""}))

    def test_pattern(self):
        self.assertEqual(pattern((X, val("a"), Y, X), {"X": 1}), ((0, 1, 3), (1, "a", 1)))
        self.assertEqual(pattern([X, Y], {}), ((), ()))
        self.assertEqual(pattern([], {"X": 1}), ((), ()))


class AlikeTest(unittest.TestCase):
    def test_led_to(self):
        links = {"X": Y, "Y": Z, "Z": val(3), "W": X}
        self.assertEqual(led_to(W, links).shown(), ("val", 3))
        self.assertEqual(led_to(X, {"X": Y}).shown(), ("var", "Y"))
        self.assertEqual(led_to(X, {}).shown(), ("var", "X"))
        self.assertEqual(led_to(val("X"), {"X": Y}).shown(), ("val", "X"))

    def test_put_in(self):
        self.assertEqual(shown_all(put_in([X, Y, val(1), W], {"X": Y, "Y": val("a")})),
                         (("val", "a"), ("val", "a"), ("val", 1), ("var", "W")))
        self.assertIsInstance(put_in([X], {}), tuple)

    def test_values(self):
        self.assertEqual(made_alike((val(1), val("a")), (val(1), val("a"))), {})
        self.assertIsNone(made_alike((val(1),), (val("1"),)))
        self.assertIsNone(made_alike((val(1),), (val(2),)))
        self.assertEqual(made_alike((), ()), {})

    def test_unlike_length(self):
        self.assertIsNone(made_alike((X,), ()))
        self.assertIsNone(made_alike((X,), (X, Y)))

    def test_a_name_and_a_value(self):
        for one, other in (((X,), (val(1),)), ((val(1),), (X,))):
            links = made_alike(one, other)
            self.assertEqual(list(links), ["X"])
            self.assertEqual(links["X"].shown(), ("val", 1))

    def test_the_same_name_in_both(self):
        self.assertEqual(made_alike((X, Y), (X, Y)), {})
        self.alike((X, Y), (Y, X))
        self.alike((X, X, Y), (Y, Z, W))
        self.assertIsNone(made_alike((X, X), (val(1), val(2))))
        self.assertIsNone(made_alike((X, Y, X), (Y, val(1), val(2))))
        self.assertIsNone(made_alike((X, val(1)), (val(2), X)))

    def test_names_linked_to_names(self):
        links = self.alike((X, Y, Z, X), (Y, Z, W, val(7)))
        for term in (X, Y, Z, W):
            self.assertEqual(led_to(term, links).shown(), ("val", 7))

    def alike(self, one, other):
        links = made_alike(one, other)
        self.assertIsInstance(links, dict)
        self.assertEqual(shown_all(put_in(one, links)), shown_all(put_in(other, links)))
        return links

    def test_the_most_general_ones(self):
        terms = (X, Y, Z, val(1), val(2))
        for one in itertools.product(terms, repeat=3):
            for other in itertools.product((X, Y, W, val(1)), repeat=3):
                self.stands_for_all(one, other)

    def stands_for_all(self, one, other):
        links = made_alike(one, other)
        names = names_in(one + other)
        some = False
        for values in itertools.product((1, 2, 3), repeat=len(names)):
            bound = dict(zip(names, values))
            if filled(one, bound) == filled(other, bound):
                some = True
                self.assertIsNotNone(links)
                for name in names:
                    self.assertEqual(led_to(var(name), links).under(bound), bound[name])
        self.assertEqual(some, links is not None)
        if links is not None:
            self.assertEqual(shown_all(put_in(one, links)), shown_all(put_in(other, links)))


class WrittenTest(unittest.TestCase):
    def test_figures(self):
        self.assertEqual(told_value(0), "0")
        self.assertEqual(told_value(-12), "-12")
        self.assertEqual(told_value(10 ** 17), "1" + "0" * 17)

    def test_bare(self):
        for word in ("a", "abc", "aB_9", "a_", "nota", "counts", "nots", "z9"):
            self.assertEqual(told_value(word), word)
            self.assertIs(is_plain(word), True)

    def test_in_marks(self):
        for word, text in (
                ("", "''"), ("Abc", "'Abc'"), ("a b", "'a b'"), ("_a", "'_a'"), ("1", "'1'"), ("9a", "'9a'"),
                ("a-b", "'a-b'"), ("it's", r"'it\'s'"), ("\\", r"'\\'"), ("a\nb", r"'a\nb'"), ("a\tb", "'a\tb'"),
                ("a.", "'a.'"), ("\u00e4", "'\u00e4'"), ("a\u00e4", "'a\u00e4'"), (" a", "' a'"), ("a ", "'a '")):
            self.assertEqual(told_value(word), text)
            self.assertIs(is_plain(word), False)

    def test_words_of_the_language(self):
        for word in ("not", "count", "sum", "least", "most"):
            self.assertEqual(told_value(word), f"'{word}'")

    def test_read_as_the_same_value(self):
        for value in (0, 5, -5, 10 ** 17, "", "a", "A", "not", "count", "\n", "\\n", "'", "1", "-1", "a b", "_"):
            signs = cut(told_value(value))
            self.assertEqual(len(signs), 1)
            sign = signs[0]
            found = int(sign.said) if sign.kind == "number" else sign.said
            self.assertIn(sign.kind, ("number",) if isinstance(value, int) else ("word", "quoted"))
            self.assertEqual(found, value)

    def test_kept_names(self):
        for name in ("_1", "_0", "_12", "_007"):
            self.assertIs(is_kept(name), True)
        for name in ("_", "", "X", "_a", "_1a", "__1", "1", "X1", "_1_"):
            self.assertIs(is_kept(name), False)

    def test_told_term(self):
        self.assertEqual(told_term(X), "X")
        self.assertEqual(told_term(var("_x")), "_x")
        self.assertEqual(told_term(var("_12")), "_")
        self.assertEqual(told_term(val("_12")), "'_12'")
        self.assertEqual(told_term(val("X")), "'X'")
        self.assertEqual(told_term(val("x")), "x")
        self.assertEqual(told_term(val(-3)), "-3")


if __name__ == "__main__":
    unittest.main()
