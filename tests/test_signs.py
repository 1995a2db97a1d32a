"""Signs, [4]: cutting, rows and columns, the place of a fault, laying out."""

import unittest

from deducehall.errors import BadSign
from deducehall.signs import (
    FIGURES, GREAT, INNER, MARKS, MOST_FIGURES, SMALL, Cutter, Sign, cut, fault_at, is_figure, is_inner, is_small,
    laid_out, marked,
)


def kinds_and_said(text):
    return [(sign.kind, sign.said) for sign in cut(text)]


def said(text):
    return [sign.said for sign in cut(text)]


class ConstantsTest(unittest.TestCase):
    def test_values(self):
        self.assertEqual(
            MARKS, (":-", "?-", "<=", "!=", ":=", "(", ")", ",", ".", "!", "<", "=", "+", "-", "*"))
        self.assertEqual(FIGURES, "0123456789")
        self.assertEqual(SMALL, "abcdefghijklmnopqrstuvwxyz")
        self.assertEqual(GREAT, SMALL.upper())
        self.assertEqual(INNER, SMALL + GREAT + FIGURES + "_")
        self.assertEqual(MOST_FIGURES, 18)


class SignTest(unittest.TestCase):
    def test_fields_and_shown(self):
        sign = Sign("word", "abc", 2, 5)
        self.assertEqual((sign.kind, sign.said, sign.row, sign.column), ("word", "abc", 2, 5))
        self.assertEqual(sign.shown(), ("word", "abc", 2, 5))

    def test_is_mark(self):
        self.assertIs(Sign("mark", "(", 1, 1).is_mark("("), True)
        self.assertIs(Sign("mark", "(", 1, 1).is_mark(")"), False)
        self.assertIs(Sign("quoted", "(", 1, 1).is_mark("("), False)

    def test_one_sign_asked(self):
        for sign in "059":
            self.assertTrue(is_figure(sign))
        for sign in ("a", "Z", "_", "-", "", "\u0663", "\u00b2"):
            self.assertFalse(is_figure(sign), sign)
        for sign in "amz":
            self.assertTrue(is_small(sign))
        for sign in ("A", "_", "5", "", "\u00e4", "'"):
            self.assertFalse(is_small(sign), sign)
        for sign in "azAZ09_":
            self.assertTrue(is_inner(sign))
        for sign in ("-", "", " ", "'", "\u00e4", "."):
            self.assertFalse(is_inner(sign), sign)


class KindsTest(unittest.TestCase):
    def test_bare_texts(self):
        for text in ("", " ", "\t\n \n", "# only a remark", " # one\n# two\n"):
            self.assertEqual(cut(text), ())

    def test_gives_a_tuple_of_signs(self):
        self.assertIsInstance(cut("a B"), tuple)
        self.assertEqual([sign.shown() for sign in cut("a B")], [("word", "a", 1, 1), ("name", "B", 1, 3)])

    def test_words_and_names(self):
        self.assertEqual(kinds_and_said("a aB_9 not X Xy_9 _ _a _1 __"), [
            ("word", "a"), ("word", "aB_9"), ("word", "not"), ("name", "X"), ("name", "Xy_9"), ("name", "_"),
            ("name", "_a"), ("name", "_1"), ("name", "__")])

    def test_a_word_ends_where_another_sign_begins(self):
        self.assertEqual(kinds_and_said("ab'c'X-d"), [
            ("word", "ab"), ("quoted", "c"), ("name", "X"), ("mark", "-"), ("word", "d")])
        self.assertEqual(kinds_and_said("12ab3"), [("number", "12"), ("word", "ab3")])
        self.assertEqual(kinds_and_said("12_3"), [("number", "12"), ("name", "_3")])

    def test_numbers_say_their_text(self):
        self.assertEqual(kinds_and_said("0 7 007 120"), [
            ("number", "0"), ("number", "7"), ("number", "007"), ("number", "120")])
        self.assertEqual(kinds_and_said("-7"), [("number", "-7")])

    def test_eighteen_figures_and_nineteen(self):
        most, more = "9" * 18, "9" * 19
        self.assertEqual(kinds_and_said(most), [("number", most)])
        self.assertEqual(kinds_and_said("-" + most), [("number", "-" + most)])
        for text in (more, "-" + more, "0" * 19, "1" + "0" * 18):
            with self.assertRaises(BadSign):
                cut(text)

    def test_only_plain_letters_and_figures(self):
        for text in ("\u00e4", "a\u00e4", "\u00c4b", "\u0663", "1\u00b2", "A\u0301"):
            with self.assertRaises(BadSign):
                cut(text)

    def test_signs_that_are_none(self):
        for text in (":", "?", ">", "/", "\"", "{", "[", ";", "&", "|", "\\", "%", "$", "@", "\r", "\f", "\x00",
                     "a ? b"):
            with self.assertRaises(BadSign, msg=repr(text)):
                cut(text)


class StrokeTest(unittest.TestCase):
    def test_nothing_ahead(self):
        self.assertEqual(kinds_and_said("-5"), [("number", "-5")])
        self.assertEqual(kinds_and_said(" # x\n -5"), [("number", "-5")])

    def test_behind_what_may_end_a_term(self):
        for ahead in ("word", "Name", "_", "7", "'quoted'", "''", ")"):
            for between in ("", " ", "\n", " # remark\n"):
                if ahead == "word" and between == "":
                    self.assertEqual(said("word-5"), ["word", "-", "5"])
                signs = cut(ahead + between + "-5")
                self.assertEqual([sign.said for sign in signs[1:]], ["-", "5"], (ahead, between))
                self.assertEqual([sign.kind for sign in signs[1:]], ["mark", "number"])

    def test_behind_another_mark(self):
        for ahead in (":-", "?-", "<=", "!=", ":=", "(", ",", ".", "!", "<", "=", "+", "-", "*"):
            signs = cut(ahead + " -5")
            self.assertEqual([(sign.kind, sign.said) for sign in signs], [("mark", ahead), ("number", "-5")])

    def test_no_figure_behind(self):
        self.assertEqual(kinds_and_said("- 5"), [("mark", "-"), ("number", "5")])
        self.assertEqual(kinds_and_said("-X"), [("mark", "-"), ("name", "X")])
        self.assertEqual(kinds_and_said("-"), [("mark", "-")])
        self.assertEqual(kinds_and_said("-\n5"), [("mark", "-"), ("number", "5")])

    def test_several_strokes(self):
        self.assertEqual(said("--5"), ["-", "-5"])
        self.assertEqual(said("X--5"), ["X", "-", "-5"])
        self.assertEqual(said("1-2-3"), ["1", "-", "2", "-", "3"])
        self.assertEqual(said(":--1"), [":-", "-1"])
        self.assertEqual(said(":-1"), [":-", "1"])
        self.assertEqual(said("?-1"), ["?-", "1"])

    def test_signed(self):
        cutter = Cutter("-5")
        self.assertIs(cutter.signed(), True)
        cutter.signs.append(Sign("word", "a", 1, 1))
        self.assertIs(cutter.signed(), False)
        cutter.signs.append(Sign("mark", "(", 1, 1))
        self.assertIs(cutter.signed(), True)
        cutter.signs.append(Sign("mark", ")", 1, 1))
        self.assertIs(cutter.signed(), False)
        cutter.signs.append(Sign("quoted", "(", 1, 1))
        self.assertIs(cutter.signed(), False)
        self.assertIs(Cutter("5").signed(), False)
        self.assertIs(Cutter("").signed(), False)


class QuotedTest(unittest.TestCase):
    def test_what_stands_within(self):
        self.assertEqual(kinds_and_said("'a b'"), [("quoted", "a b")])
        self.assertEqual(kinds_and_said("''"), [("quoted", "")])
        self.assertEqual(kinds_and_said("'# no remark'"), [("quoted", "# no remark")])
        self.assertEqual(kinds_and_said("'a''b'"), [("quoted", "a"), ("quoted", "b")])
        self.assertEqual(kinds_and_said("'\u00e4\t\"\r%'"), [("quoted", "\u00e4\t\"\r%")])

    def test_backslashes(self):
        self.assertEqual(said(r"'it\'s'"), ["it's"])
        self.assertEqual(said(r"'a\\b'"), ["a\\b"])
        self.assertEqual(said(r"'a\nb'"), ["a\nb"])
        self.assertEqual(said(r"'\\n'"), ["\\n"])
        self.assertEqual(said(r"'\\\''"), ["\\'"])

    def test_a_backslash_ahead_of_another_sign(self):
        for text in (r"'\t'", r"'\a'", r"'\ '", r"'\"'", r"'\N'", r"'\0'", "'\\\n'", "'\\"):
            with self.assertRaises(BadSign, msg=text):
                cut(text)

    def test_no_end(self):
        for text in ("'", "'abc", r"'abc\'", "'a\nb'", "'a\n", "p('a). q('b')."):
            with self.assertRaises(BadSign, msg=text):
                cut(text)

    def test_taken_alone(self):
        cutter = Cutter(r"'a\'b' c")
        self.assertEqual(cutter.quoted(), "a'b")
        self.assertEqual(cutter.place, 6)
        for text in (r"'\x'", "'x"):
            with self.assertRaises(BadSign):
                Cutter(text).quoted()


class MarksTest(unittest.TestCase):
    def test_each_mark(self):
        for mark in MARKS:
            self.assertEqual(kinds_and_said(mark), [("mark", mark)])
            cutter = Cutter(mark)
            self.assertEqual(cutter.mark(), mark)
            self.assertTrue(cutter.at_end())

    def test_the_longest_is_taken(self):
        self.assertEqual(said("<="), ["<="])
        self.assertEqual(said("<=="), ["<=", "="])
        self.assertEqual(said("<<="), ["<", "<="])
        self.assertEqual(said("!="), ["!="])
        self.assertEqual(said("!=="), ["!=", "="])
        self.assertEqual(said("!:-"), ["!", ":-"])
        self.assertEqual(said(":=:-"), [":=", ":-"])
        self.assertEqual(said("?-- "), ["?-", "-"])
        self.assertEqual(said("=<"), ["=", "<"])
        self.assertEqual(said("< ="), ["<", "="])

    def test_no_mark(self):
        for text in (":", "?", "a", "1", "'", " ", ">"):
            with self.assertRaises(BadSign):
                Cutter(text).mark()


class PlacesTest(unittest.TestCase):
    def test_rows_and_columns(self):
        text = "p(X) :-\n\tq('a b', -5).  # remark q\n\n  r.\n"
        self.assertEqual([sign.shown() for sign in cut(text)], [
            ("word", "p", 1, 1), ("mark", "(", 1, 2), ("name", "X", 1, 3), ("mark", ")", 1, 4), ("mark", ":-", 1, 6),
            ("word", "q", 2, 2), ("mark", "(", 2, 3), ("quoted", "a b", 2, 4), ("mark", ",", 2, 9),
            ("number", "-5", 2, 11), ("mark", ")", 2, 13), ("mark", ".", 2, 14),
            ("word", "r", 4, 3), ("mark", ".", 4, 4)])

    def test_behind_a_backslash_columns_count_the_text(self):
        self.assertEqual(cut(r"'\n\'' a")[1].shown(), ("word", "a", 1, 8))

    def test_a_remark_at_the_end(self):
        self.assertEqual(said("a # b"), ["a"])
        self.assertEqual(said("a#b\nc#"), ["a", "c"])
        self.assertEqual(said("# 'no end\na"), ["a"])

    def test_cutter_fields(self):
        cutter = Cutter("a\n b")
        self.assertEqual((cutter.text, cutter.place, cutter.row, cutter.begun), ("a\n b", 0, 1, 0))
        self.assertEqual(list(cutter.signs), [])
        self.assertIs(cutter.at_end(), False)
        cutter.cut_one()
        self.assertEqual([sign.shown() for sign in cutter.signs], [("word", "a", 1, 1)])
        self.assertIs(cutter.at_end(), False)
        self.assertEqual((cutter.place, cutter.row, cutter.begun), (3, 2, 2))
        cutter.cut_one()
        self.assertIs(cutter.at_end(), True)
        self.assertEqual(cutter.signs[1].shown(), ("word", "b", 2, 2))

    def test_run_takes_the_sign_here_whatever_it_is(self):
        cutter = Cutter("-123a")
        self.assertEqual(cutter.run(FIGURES), "-123")
        self.assertEqual(cutter.place, 4)
        self.assertEqual(cutter.run(INNER), "a")

    def test_take_number(self):
        cutter = Cutter("-12 3")
        self.assertEqual(cutter.take_number(), "-12")
        self.assertEqual(Cutter("9" * 18).take_number(), "9" * 18)
        for text in ("9" * 19, "-" + "9" * 19):
            with self.assertRaises(BadSign):
                Cutter(text).take_number()


class FaultTest(unittest.TestCase):
    def test_no_fault(self):
        for text in ("", "a B 1 'c' :- .", "# ?"):
            self.assertIsNone(fault_at(text))

    def test_where_the_sign_begins(self):
        self.assertEqual(fault_at("?"), (1, 1))
        self.assertEqual(fault_at("a ?"), (1, 3))
        self.assertEqual(fault_at("a\n\n\t; b"), (3, 2))
        self.assertEqual(fault_at("a # ?\n  'bc"), (2, 3))
        self.assertEqual(fault_at("'ab\\x'"), (1, 1))
        self.assertEqual(fault_at("p(\n 'a\nb')"), (2, 2))
        self.assertEqual(fault_at("ab " + "1" * 19), (1, 4))
        self.assertEqual(fault_at("( -" + "1" * 19), (1, 3))
        self.assertEqual(fault_at("X -" + "1" * 19), (1, 4))

    def test_the_first_of_several(self):
        self.assertEqual(fault_at("a $ b\n?"), (1, 3))


class LaidOutTest(unittest.TestCase):
    def test_rows_stay(self):
        self.assertEqual(laid_out(cut("p(X):-q.\n# r\n  r .")), "p ( X ) :- q .\n\nr .")

    def test_a_first_row_without_signs(self):
        self.assertEqual(laid_out(cut("\n\na b")), "\n\na b")

    def test_nothing(self):
        self.assertEqual(laid_out(()), "")
        self.assertEqual(laid_out(cut(" # x\n")), "")

    def test_quoted_words_stand_in_marks(self):
        self.assertEqual(laid_out(cut(r"p('a b','it\'s','\\','\n','')")), r"p ( 'a b' , 'it\'s' , '\\' , '\n' , '' )")

    def test_cut_again_it_is_the_same(self):
        text = "p(X, -5):-q(X)-1,\n Y:=X--3, not r('\\n').\n\n!:-a. ?-b<=-1."
        signs = cut(text)
        again = cut(laid_out(signs))
        self.assertEqual([(sign.kind, sign.said, sign.row) for sign in again],
                         [(sign.kind, sign.said, sign.row) for sign in signs])


class MarkedTest(unittest.TestCase):
    def test_marked(self):
        self.assertEqual(marked(""), "''")
        self.assertEqual(marked("a"), "'a'")
        self.assertEqual(marked("it's"), r"'it\'s'")
        self.assertEqual(marked("\\"), r"'\\'")
        self.assertEqual(marked("\n"), r"'\n'")
        self.assertEqual(marked("\\n"), r"'\\n'")
        self.assertEqual(marked("\\'"), r"'\\\''")

    def test_cut_again_it_is_the_word(self):
        for word in ("", "a", "\n", "\\", "'", "\\n", "\\'", "'\\\n'", "a\tb", "#", "\u00e4"):
            self.assertEqual(kinds_and_said(marked(word)), [("quoted", word)])


if __name__ == "__main__":
    unittest.main()
