"""Logs, [25] (with [5], [6] and [34]): how transactions are written, figures, cut and changed texts, replays."""

import random
import unittest

import oracle
from deducehall.engines import Engine, many_changes
from deducehall.errors import BadStore
from deducehall.logs import (
    BASE, WIDE, Block, Log, blocks_of, fact_text, figure_of, is_count, read_block, read_fact, read_rules, replayed,
    whole_lines,
)
from deducehall.readers import read_rule, told_rule
from deducehall.stores import Changes

RULES = "path(X, Y) :- edge(X, Y). path(X, count(Z)) :- edge(X, Y), path(Y, Z), not far(_, Z), Z != 'a b'."
# Words with marks, backslashes and rows' ends within, words of the language's own, numbers below nought.
HARD = ("it's", "\\", "a\nb", "\n", "\\n", "", "not", "count", "Ann", "_", "1", "-1", "a b", "# no", "end 0", "+ p.",
        "\t", "\r", "\x0b", "\u2028", "\u00e9", 0, -1, 999999999999999999, -999999999999999999)


def figure_by_hand(text):
    rows = text.split("\n")
    weighed = sum(place * sum(map(ord, row)) for place, row in enumerate(rows, 1))
    return sum(map(ord, text)) % 2000003 * 9973 + weighed % 9973


def whole_block(*rows):
    """Return a block's text of rows, its last row with the right figure put behind them."""
    text = "".join(row + "\n" for row in rows)
    return f"{text}end {figure_by_hand(text)}\n"


def changes_of(came="", went=""):
    steps = [(name, row, False) for name, row in oracle.facts_of(went)]
    return many_changes(steps + [(name, row, True) for name, row in oracle.facts_of(came)])


def logged():
    """Return a log of five transactions, two with rules, and what an engine shows from nothing on."""
    log = Log()
    engine = Engine()
    states = [state_of(engine)]
    rules = oracle.rules_of("path(X, Y) :- edge(X, Y). far(X, Z) :- path(X, Y), edge(Y, Z), not edge(X, Z).")
    hard = many_changes([("word", (value,), True) for value in HARD])
    for rule_list, changes in ((None, changes_of("edge(1, -2). edge(b, c). on.")), (rules, changes_of("edge(c, 'D e').")),
                               (None, hard), (rules[:1], changes_of("off.", "edge(1, -2). on.")),
                               (None, changes_of("edge(7, 8).", "edge(b, c). edge(c, 'D e')."))):
        log.write(rule_list, changes)
        if rule_list is None:
            engine.take_in(changes)
        else:
            engine.renew(rule_list, changes)
        states.append(state_of(engine))
    return log, states


def state_of(engine):
    return [told_rule(rule) for rule in engine.rules], engine.facts(), engine.shown()


class LogCase(unittest.TestCase):
    def refused(self, deed, *arguments):
        with self.assertRaises(BadStore) as caught:
            deed(*arguments)
        self.assertIs(type(caught.exception), BadStore)


class FigureTest(unittest.TestCase):
    def test_numbers(self):
        self.assertEqual((BASE, WIDE), (9973, 2000003))

    def test_by_hand(self):
        self.assertEqual(figure_of(""), 0)
        self.assertEqual(figure_of("a"), 97 * 9973 + 97)
        self.assertEqual(figure_of("a\n"), 107 * 9973 + 97)
        self.assertEqual(figure_of("\na"), 107 * 9973 + 194)
        self.assertEqual(figure_of("ab\ncd\n"), (97 + 98 + 10 + 99 + 100 + 10) * 9973 + 97 + 98 + 2 * 199)

    def test_what_is_left(self):
        for text in ("z" * 20000, ("z" * 90 + "\n") * 400, "\U0010ffff" * 3, "\r\x0b\u2028\n" * 9):
            self.assertEqual(figure_of(text), figure_by_hand(text))
        self.assertGreater(sum(map(ord, "z" * 20000)), 2000003)

    def test_turned_rows_and_signs(self):
        self.assertNotEqual(figure_of("ab\ncd\n"), figure_of("cd\nab\n"))
        self.assertEqual(figure_of("ab\n"), figure_of("ba\n"))


class FactTest(LogCase):
    def test_written(self):
        for text, name, row in (("p(1, -2).", "p", (1, -2)), ("z.", "z", ()),
                                ("p('it\\'s', '\\\\', 'a\\nb').", "p", ("it's", "\\", "a\nb")),
                                ("count('count', counts).", "count", ("count", "counts"))):
            self.assertEqual(fact_text(name, row), text)
            self.assertEqual(read_fact(text), (name, row))

    def test_read_back_the_same(self):
        for value in HARD:
            for row in ((value,), (value, value), (1, value)):
                text = fact_text("p", row)
                self.assertNotIn("\n", text)
                self.assertEqual(read_fact(text), ("p", row))
                self.assertEqual([type(one) for one in read_fact(text)[1]], [type(one) for one in row])

    def test_texts_that_are_no_fact(self):
        for text in ("", "p", "p(1)", "p(X).", "p(_).", "p(1) :- q.", "p(1). p(2).", "?- p(1).", "! :- p(1).", "P(1).",
                     "not(1).", "p(count(X)).", "p(1000000000000000000).", "p('a).", "p().", "p(1)..", "'p'(1)."):
            self.refused(read_fact, text)


class BlockTest(LogCase):
    def test_written(self):
        rules = oracle.rules_of("p(X) :- q(X, _), not r(X).\np(count(X)) :- q(X, Y), Y < 3.")
        block = Block(12, rules, [("b", (1,), False), ("a", (), True)])
        rows = ("begin 12", "rules 2", "= p(X) :- q(X, _), not r(X).", "= p(count(X)) :- q(X, Y), Y < 3.", "- b(1).", "+ a.")
        self.assertEqual(block.written(), whole_block(*rows))
        self.assertEqual(block.shown(), (12, tuple(row[2:] for row in rows[2:4]), (("b", (1,), False), ("a", (), True))))

    def test_without_rules_and_with_none(self):
        self.assertEqual(Block(0, None, ()).written(), whole_block("begin 0"))
        self.assertEqual(Block(0, (), ()).written(), whole_block("begin 0", "rules 0"))
        self.assertEqual(Block(3, None, ()).shown(), (3, None, ()))
        self.assertEqual(Block(3, [], []).shown(), (3, (), ()))

    def test_fields(self):
        block = Block(1, None, [["a", (1,), True]])
        self.assertEqual((block.number, block.rules, block.steps), (1, None, (("a", (1,), True),)))

    def test_read_back(self):
        for block in (Block(0, None, ()), Block(3, oracle.rules_of(RULES), ()), Block(4, oracle.rules_of(RULES), [("p", (value,), True) for value in HARD]),
                      Block(10 ** 12 - 1, (), [("z", (), False), ("a", (1, 2), True)])):
            self.assertEqual(read_block(whole_lines(block.written())[:-1]).shown(), block.shown())

    def test_lines_that_are_none(self):
        for lines in ([], ["begin"], ["begin "], ["begin x"], ["begin 01"], ["begin -1"], ["begin +1"], ["begin 1 "],
                      [" begin 1"], ["begin 1000000000000"], ["Begin 1"], ["rules 0"], ["+ p."], ["begin 0", ""],
                      ["begin 0", "p(1)."], ["begin 0", "+p(1)."], ["begin 0", "* p(1)."], ["begin 0", "+ p(X)."],
                      ["begin 0", "rules 1"], ["begin 0", "rules 2", "= p(X) :- q(X)."], ["begin 0", "rules x"],
                      ["begin 0", "rules 1", "p(X) :- q(X)."], ["begin 0", "rules 1", "+ p(1)."],
                      ["begin 0", "rules 1", "= p(X) :- q(X"], ["begin 0", "rules 0", "= p(X) :- q(X)."],
                      ["begin 0", "= p(X) :- q(X)."], ["begin 0", "+ p(1).", "rules 0"], ["begin 0", "begin 1"],
                      ["begin 0", "rules 1", "= ?- p(X)."], ["begin 0", "rules 01", "= p(X) :- q(X)."]):
            self.refused(read_block, lines)

    def test_rules(self):
        texts = ["p(X) :- q(X, _, _).", "p(X, sum(Y)) :- q(X, Y, 'a\\nb')."]
        found = read_rules(["= " + text for text in texts])
        self.assertIs(type(found), tuple)
        self.assertEqual([told_rule(rule) for rule in found], texts)
        self.assertEqual(read_rules([]), ())
        for line in ("", "= ", "= p(X) :- ", "= p(X) :- q(X). p(Y) :- r(Y).", "=p(X) :- q(X).", "- p(1).",
                     "= p(sum(1)) :- q(1)."):
            self.refused(read_rules, ["= p(X) :- q(X).", line])

    def test_counts(self):
        for line, word, is_one in (("begin 0", "begin ", True), ("begin 10", "begin ", True), ("rules 7", "rules ", True),
                                   ("begin 999999999999", "begin ", True), ("begin 1000000000000", "begin ", False),
                                   ("begin 00", "begin ", False), ("begin 07", "begin ", False), ("begin ", "begin ", False),
                                   ("begin", "begin ", False), ("begin 1x", "begin ", False), ("begin -1", "begin ", False),
                                   ("begin 1", "rules ", False), ("begin \u0661", "begin ", False), ("", "begin ", False),
                                   ("begin  1", "begin ", False), ("xbegin 1", "begin ", False)):
            self.assertIs(is_count(line, word), is_one, line)

    def test_whole_lines(self):
        for text, lines in (("", []), ("a", []), ("a\n", ["a"]), ("a\nb", ["a"]), ("a\n\nb\n", ["a", "", "b"]),
                            ("a\rb\x0bc\n", ["a\rb\x0bc"])):
            self.assertEqual(list(whole_lines(text)), lines)


class WriteTest(LogCase):
    def test_a_new_log(self):
        log = Log()
        self.assertEqual((log.text, log.many), ("", 0))
        self.assertEqual(blocks_of(""), ())
        self.assertEqual(replayed("").shown(), ())

    def test_what_went_ahead_of_what_came_by_names_rows_in_order(self):
        log = Log()
        block = log.write(None, changes_of("b(2). b(-1). a(w). a(3). c.", "b(x). b(7). a('W'). d(1)."))
        rows = ("begin 0", "- a('W').", "- b(7).", "- b(x).", "- d(1).", "+ a(3).", "+ a(w).", "+ b(-1).", "+ b(2).", "+ c.")
        self.assertEqual(log.text, whole_block(*rows))
        self.assertEqual(block.steps, tuple(read_fact(row[2:]) + (row[0] == "+",) for row in rows[1:]))
        self.assertEqual((block.number, log.many), (0, 1))

    def test_numbers_from_nought_on(self):
        log = Log()
        self.assertEqual([log.write(None, Changes()).number for _ in range(12)], list(range(12)))
        self.assertEqual(log.many, 12)
        self.assertEqual(log.text, "".join(whole_block(f"begin {number}") for number in range(12)))

    def test_with_rules(self):
        log = Log()
        log.write(oracle.rules_of(RULES), changes_of("edge(1, 2)."))
        log.write((), Changes())
        rules = [told_rule(rule) for rule in oracle.rules_of(RULES)]
        self.assertEqual(log.text, whole_block("begin 0", "rules 2", "= " + rules[0], "= " + rules[1], "+ edge(1, 2).")
                         + whole_block("begin 1", "rules 0"))

    def test_read_back(self):
        log, _ = logged()
        blocks = blocks_of(log.text)
        self.assertIs(type(blocks), tuple)
        self.assertEqual([block.number for block in blocks], [0, 1, 2, 3, 4])
        self.assertEqual("".join(block.written() for block in blocks), log.text)
        self.assertEqual([block.rules is None for block in blocks], [True, False, True, False, True])
        self.assertEqual(len(blocks[2].steps), len(HARD))


class TornTest(LogCase):
    def ends(self, text):
        """Return at how many signs each of a log's transactions ends."""
        found = [0]
        for block in blocks_of(text):
            found.append(found[-1] + len(block.written()))
        return found

    def test_cut_at_every_place(self):
        log, states = logged()
        ends = self.ends(log.text)
        for place in range(len(log.text) + 1):
            whole = len([end for end in ends[1:] if end <= place])
            text = log.text[:place]
            self.assertEqual([block.number for block in blocks_of(text)], list(range(whole)))
            self.assertEqual(state_of(replayed(text)), states[whole])

    def test_each_sign_changed(self):
        log, states = logged()
        ends = self.ends(log.text)
        for place, sign in enumerate(log.text):
            number = len([end for end in ends[1:] if end <= place])
            for other in ("0", "1", "x", "\n", " ", "."):
                text = log.text[:place] + other + log.text[place + 1:]
                if other == sign:
                    continue
                if number < len(ends) - 2:
                    self.refused(blocks_of, text)
                    self.refused(replayed, text)
                    continue
                # The last transaction isn't whole any more: it is refused, or left out as a torn end.
                try:
                    self.assertEqual(state_of(replayed(text)), states[number])
                except BadStore:
                    continue

    def test_a_changed_figure(self):
        log, _ = logged()
        lines = whole_lines(log.text)
        for place, line in enumerate(lines):
            if line.startswith("end "):
                for other in (f"end {int(line[4:]) + 1}", "end 0", "end ", "end x", f"end 0{line[4:]}", line + " "):
                    self.refused(blocks_of, "\n".join(lines[:place] + [other] + lines[place + 1:]) + "\n")

    def test_a_block_left_out_within_or_told_twice_or_turned(self):
        log, _ = logged()
        parts = [block.written() for block in blocks_of(log.text)]
        for number in range(len(parts) - 1):
            self.refused(blocks_of, "".join(parts[:number] + parts[number + 1:]))
            self.refused(blocks_of, "".join(parts[:number + 1] + parts[number:]))
        self.refused(blocks_of, "".join(parts + parts[-1:]))
        self.refused(blocks_of, "".join([parts[1], parts[0]] + parts[2:]))
        self.assertEqual(len(blocks_of("".join(parts[:-1]))), len(parts) - 1)

    def test_a_row_left_out_within(self):
        log, _ = logged()
        lines = whole_lines(log.text)
        last = max(place for place, line in enumerate(lines[:-1]) if line.startswith("end "))
        for place in range(last + 1):
            self.refused(blocks_of, "\n".join(lines[:place] + lines[place + 1:]) + "\n")

    def test_words_that_are_none(self):
        for rows in (("begin 0", "p(1)."), ("begin 0", "+ p(X)."), ("begin 0", "rules 1"), ("start 0",), (), ("+ p(1).",),
                     ("begin 0", "rules 1", "= p(X) :- q(X"), ("begin 1",), ("begin 00",), ("begin 0", "+ p(1).", ""),
                     ("begin 0", "begin 0"), ("begin 0", "rules 1", "- p(1).")):
            self.refused(blocks_of, whole_block(*rows))
            self.refused(replayed, whole_block(*rows))


class ReplayTest(LogCase):
    def test_rules_and_facts(self):
        log, states = logged()
        engine = replayed(log.text)
        self.assertEqual(state_of(engine), states[-1])
        self.assertEqual(engine.shown(), oracle.shown(oracle.model_of(engine.rules, engine.facts())))

    def test_changes_that_cannot_be(self):
        first = whole_block("begin 0", "+ p(1).", "+ q(2, 3).")
        for rows in (("- p(2).",), ("+ p(1).",), ("+ p(1, 2).",), ("- r.",), ("rules 1", "= r(X) :- p(X), not r(X)."),
                     ("rules 1", "= r(X) :- q(X)."), ("rules 1", "= p(1)."), ("rules 1", "= r(X) :- p(Y)."),
                     ("rules 1", "= r(X) :- s(X).", "+ s(1, 2)."), ("+ s(1).", "+ s(1, 2)."),
                     ("rules 1", "= r(X) :- p(X), Y := X + 1, Y := 1 + 1.")):
            text = first + whole_block("begin 1", *rows)
            self.refused(replayed, text)
            self.assertEqual(replayed(text[:-1]).facts(), (("p", (1,)), ("q", (2, 3))))

    def test_rules_and_facts_at_once(self):
        text = whole_block("begin 0", "+ p(1).") + whole_block("begin 1", "rules 1", "= r(X, Y) :- p(X, Y).", "- p(1).",
                                                              "+ p(1, 2).")
        self.assertEqual(replayed(text).shown(), (("p", ((1, 2),)), ("r", ((1, 2),))))

    def test_drawn_runs(self):
        for seed in range(40):
            chosen = random.Random(seed)
            engine = Engine()
            log = Log()
            for _ in range(6):
                rules = oracle.drawn_rules(chosen, 3) if chosen.random() < 0.4 else None
                changes = many_changes(oracle.drawn_steps(chosen, 4, engine.base.has))
                log.write(rules, changes)
                if rules is None:
                    engine.take_in(changes)
                else:
                    engine.renew(rules, changes)
            again = replayed(log.text)
            self.assertEqual(state_of(again), state_of(engine))
            self.assertEqual(again.shown(), oracle.shown(oracle.model_of(again.rules, again.facts())))


class RuleTextTest(unittest.TestCase):
    def test_a_rule_is_written_as_the_language_tells_it(self):
        text = "p(X, most(Y)) :- q(X, _, 'it\\'s'), not r(_), Y := X * -3, X != 'count', Y <= 'A\\\\'."
        self.assertEqual(Block(0, [read_rule(text)], ()).shown()[1], (text,))


if __name__ == "__main__":
    unittest.main()
