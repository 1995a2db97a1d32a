"""Layers, [10]: links, rings and their order, what is refused, layers, shortest rings and ways."""

import itertools
import random
import unittest

from deducehall.errors import BadLayer, NoSuch
from deducehall.layers import (
    above, below, check_layers, is_ring, layer_numbers, layers, links, reached, rings, strict_ring, way,
)
from deducehall.readers import read
from deducehall.rules import Rule, neg, pos, summed_rule
from deducehall.terms import var


def rules_of(text):
    return [clause.rule for clause in read(text)]


def from_links(table):
    """Return rules with just some links: names of one letter, a great one behind where a link is strict."""
    rules = []
    for name in table:
        for asked in table[name]:
            rules.append(Rule(name, (), (neg(asked, ()) if table[name][asked] else pos(asked, ()),)))
    return rules


def some_tables(many, seed):
    chosen = random.Random(seed)
    for _ in range(many):
        names = "abcdef"[:chosen.randint(1, 6)]
        table = {name: {} for name in names}
        for name, asked in itertools.product(names, names):
            if chosen.random() < 0.25:
                table[name][asked] = chosen.random() < 0.2
        yield {name: table[name] for name in chosen.sample(names, len(names))}


def all_ways(table, start, end):
    """Return all ways without a name met twice but for the ends."""
    found = []
    left = [(start,)]
    while left:
        names = left.pop()
        for asked in table.get(names[-1], {}):
            if asked == end:
                found.append(names + (asked,))
            if asked not in names:
                left.append(names + (asked,))
    return found


class LinksTest(unittest.TestCase):
    def test_all_names(self):
        table = links(rules_of("p(X) :- q(X), not r(X), X < 1, Y := X + 1. s. q(X) :- q(X)."
                               " t(count(X)) :- p(X), not q(X)."))
        self.assertEqual(table, {
            "p": {"q": False, "r": True}, "q": {"q": False}, "r": {}, "s": {}, "t": {"p": True, "q": True}})
        self.assertEqual(links([]), {})

    def test_strictly_by_one_of_several(self):
        for text in ("p :- q, not q.", "p :- not q, q.", "p :- q. p :- not q.", "p :- not q. p :- q.",
                     "p(X) :- q. p(count(X)) :- q.", "p(count(X)) :- q. p(X) :- q."):
            self.assertEqual(links(rules_of(text)), {"p": {"q": True}, "q": {}}, text)

    def test_reached(self):
        table = links(rules_of("a :- b. b :- c, d. c :- b. e :- e. f :- a."))
        self.assertEqual(reached(table, "a"), ("b", "c", "d"))
        self.assertEqual(reached(table, "b"), ("b", "c", "d"))
        self.assertEqual(reached(table, "d"), ())
        self.assertEqual(reached(table, "e"), ("e",))
        self.assertEqual(reached(table, "f"), ("a", "b", "c", "d"))


class RingsTest(unittest.TestCase):
    def test_what_is_asked_stands_ahead(self):
        self.assertEqual(rings(rules_of("a :- b. b :- c.")), (("c",), ("b",), ("a",)))
        self.assertEqual(rings(rules_of("c :- b. b :- a. d :- e.")), (("a",), ("b",), ("c",), ("e",), ("d",)))
        self.assertEqual(rings([]), ())

    def test_of_those_that_may_come_next_the_first_by_letters(self):
        self.assertEqual(rings(rules_of("a :- z. b :- y. c :- c.")), (("c",), ("y",), ("b",), ("z",), ("a",)))
        self.assertEqual(rings(rules_of("a :- m. m :- x. b :- n. n :- w.")),
                         (("w",), ("n",), ("b",), ("x",), ("m",), ("a",)))

    def test_rings_of_several_names(self):
        text = "d :- c. c :- d, b. b :- a, e. a :- b. f :- d. g :- g, h."
        self.assertEqual(rings(rules_of(text)), (("e",), ("a", "b"), ("c", "d"), ("f",), ("h",), ("g",)))

    def test_two_rings_over_one_name(self):
        self.assertEqual(rings(rules_of("a :- b. b :- a, c. c :- b. x :- a.")), (("a", "b", "c"), ("x",)))

    def test_is_ring(self):
        rules = rules_of("a :- b. b :- a. c :- c. d :- not d. e :- a. f(count(X)) :- f(X).")
        for ring, found in ((("a", "b"), True), (("c",), True), (("d",), True), (("f",), True), (("e",), False),
                            (("a",), False), (("none",), False)):
            self.assertIs(is_ring(rules, ring), found, ring)

    def test_against_all_ways(self):
        for table in some_tables(300, 1):
            rules = from_links(table)
            found = rings(rules)
            names = {name: True for name in table for name in [name] + list(table[name]) if self.known(rules, name)}
            self.assertEqual(sorted(name for ring in found for name in ring), sorted(names))
            for one, other in itertools.product(names, names):
                alike = one == other or bool(all_ways(table, one, other) and all_ways(table, other, one))
                self.assertEqual(alike, any(one in ring and other in ring for ring in found))
            self.in_order(table, found)

    def known(self, rules, name):
        return any(name == rule.name or name in rule.asked("pos") + rule.asked("neg") for rule in rules)

    def in_order(self, table, found):
        left = sorted(found)
        for ring in found:
            told = [name for other in found[:found.index(ring)] for name in other]
            free = [other for other in left
                    if all(asked in told or asked in other for name in other for asked in table[name])]
            self.assertEqual(ring, free[0])
            self.assertEqual(ring, tuple(sorted(ring)))
            left.remove(ring)

    def test_long_rows_of_names(self):
        many = 1500
        down = [Rule(f"n{number}", (), (pos(f"n{number + 1}", ()),)) for number in range(many)]
        self.assertEqual(len(rings(down)), many + 1)
        self.assertEqual(rings(down)[0], (f"n{many}",))
        round_about = down + [Rule(f"n{many}", (), (pos("n0", ()),))]
        self.assertEqual(len(rings(round_about)), 1)


class CheckTest(unittest.TestCase):
    def test_taken(self):
        for text in ("p :- not q.", "p :- p.", "p :- q. q :- p, not r. r :- s.", "p(count(X)) :- q(X). q(X) :- q(X).",
                     "p(X) :- q(Y), X := Y + 1.", "p(X) :- p(X), q(X). q(X) :- r(Y), X := Y + 1.", "",
                     "p(X) :- X := 1 + 2. p(X) :- p(X), q(X)."):
            rules = rules_of(text)
            self.assertEqual(check_layers(rules), rings(rules), text)

    def test_strict_in_a_ring(self):
        for text in ("p :- not p.", "p :- q. q :- not p.", "p :- q, not r. q :- p. r :- q.", "p(count(X)) :- p(X).",
                     "p(X) :- q(X). q(sum(X)) :- p(X).", "a :- b. b :- not c. c :- d. d :- a.",
                     "p(X) :- p(X), not p(1)."):
            for ask in (check_layers, layer_numbers, layers):
                with self.assertRaises(BadLayer, msg=text):
                    ask(rules_of(text))

    def test_reckons_in_a_ring(self):
        for text in ("p(X) :- p(Y), X := Y + 1.", "p(X) :- q(Y), X := Y + 1. q(X) :- p(X).",
                     "p(X) :- q(X). q(X) :- p(Y), e(X), Z := Y + 1."):
            for ask in (check_layers, layer_numbers, layers):
                with self.assertRaises(BadLayer, msg=text):
                    ask(rules_of(text))

    def test_a_strict_link_between_rings(self):
        rules = rules_of("a :- b. b :- a. c :- d, not a. d :- c.")
        self.assertEqual(check_layers(rules), (("a", "b"), ("c", "d")))
        self.assertEqual(layers(rules), (("a", "b"), ("c", "d")))


class LayersTest(unittest.TestCase):
    def test_numbers(self):
        rules = rules_of("p(X) :- q(X), not r(X). r(X) :- s(X), not t(X). q(X) :- p(X)."
                         " u(count(X)) :- p(X), r(X). v :- u(1).")
        self.assertEqual(layer_numbers(rules), {"p": 2, "q": 2, "r": 1, "s": 0, "t": 0, "u": 3, "v": 3})
        self.assertEqual(layers(rules), (("s", "t"), ("r",), ("p", "q"), ("u", "v")))

    def test_none_and_one(self):
        self.assertEqual(layer_numbers([]), {})
        self.assertEqual(layers([]), ())
        self.assertEqual(layers(rules_of("b :- c. a :- b.")), (("a", "b", "c"),))

    def test_the_least_that_fit(self):
        for table in some_tables(300, 2):
            rules = from_links(table)
            if any(strict and (name == asked or all_ways(table, asked, name))
                   for name in table for asked, strict in table[name].items()):
                with self.assertRaises(BadLayer):
                    layer_numbers(rules)
                self.assertIsNotNone(strict_ring(rules))
                continue
            self.assertIsNone(strict_ring(rules))
            found = layer_numbers(rules)
            lowest = {name: 0 for name in found}
            for _ in found:
                for name in found:
                    for asked, strict in table[name].items():
                        lowest[name] = max(lowest[name], lowest[asked] + strict)
            self.assertEqual(found, lowest)
            rows = layers(rules)
            self.assertEqual({name: number for number, row in enumerate(rows) for name in row}, lowest)
            self.assertEqual(rows, tuple(tuple(sorted(row)) for row in rows))


class WaysTest(unittest.TestCase):
    def test_the_shortest_then_the_first(self):
        table = links(rules_of("a :- b, c, z. b :- d. c :- d. d :- e. z :- e. x :- a."))
        self.assertEqual(way(table, "a", "d"), ("a", "b", "d"))
        self.assertEqual(way(table, "a", "e"), ("a", "z", "e"))
        self.assertEqual(way(table, "x", "d"), ("x", "a", "b", "d"))
        self.assertEqual(way(table, "a", "b"), ("a", "b"))

    def test_to_itself(self):
        table = links(rules_of("a :- b. b :- a, c. c :- c. d :- a."))
        self.assertEqual(way(table, "a", "a"), ("a", "b", "a"))
        self.assertEqual(way(table, "c", "c"), ("c", "c"))
        with self.assertRaises(NoSuch):
            way(table, "d", "d")

    def test_no_way(self):
        table = links(rules_of("a :- b. c :- a."))
        for start, end in (("b", "a"), ("a", "c"), ("a", "a"), ("a", "none"), ("none", "a"), ("none", "none")):
            with self.assertRaises(NoSuch):
                way(table, start, end)

    def test_against_all_ways(self):
        for table in some_tables(300, 3):
            for start, end in itertools.product(table, table):
                ways = all_ways(table, start, end)
                if ways:
                    self.assertEqual(way(table, start, end), min(ways, key=lambda names: (len(names), names)))
                else:
                    with self.assertRaises(NoSuch):
                        way(table, start, end)

    def test_strict_rings(self):
        for text, found in (
                ("p :- not p.", ("p", "p")), ("p :- not q. q :- p.", ("p", "q", "p")),
                ("p :- q. q :- not p.", ("q", "p", "q")),
                ("p :- not q. q :- not p.", ("p", "q", "p")), ("p :- not q.", None), ("p :- p.", None), ("", None),
                ("a :- not b. b :- c. c :- a. z :- not y. y :- z.", ("z", "y", "z")),
                ("a :- not c, not b. b :- d. c :- d. d :- a.", ("a", "b", "d", "a")),
                ("p(count(X)) :- q(X). q(X) :- p(X).", ("p", "q", "p")), ("p(X) :- p(Y), X := Y + 1.", None)):
            self.assertEqual(strict_ring(rules_of(text)), found, text)

    def test_strict_rings_against_all_ways(self):
        for table in some_tables(300, 4):
            found = [(name, asked) for name in table for asked in table[name] if table[name][asked] and name == asked]
            for name in table:
                for asked in table[name]:
                    if table[name][asked]:
                        found.extend((name,) + names for names in all_ways(table, asked, name) if asked != name)
            least = min(found, key=lambda names: (len(names), names)) if found else None
            self.assertEqual(strict_ring(from_links(table)), least)

    def test_above_and_below(self):
        rules = rules_of("a :- b. b :- c. c :- b. d :- not c. e(count(X)) :- f(X).")
        self.assertEqual(above(rules, ["b"]), ("a", "b", "c", "d"))
        self.assertEqual(above(rules, ("a", "f")), ("a", "e", "f"))
        self.assertEqual(below(rules, ["a"]), ("a", "b", "c"))
        self.assertEqual(below(rules, ("d", "e")), ("b", "c", "d", "e", "f"))
        self.assertEqual(above(rules, []), ())
        self.assertEqual(below(rules, []), ())
        self.assertEqual(below(rules, ["f"]), ("f",))
        self.assertEqual(above(rules, ["e"]), ("e",))


class SummedTest(unittest.TestCase):
    def test_each_kind_of_sum_links_strictly(self):
        for kind in ("count", "sum", "least", "most"):
            rule = summed_rule("p", (var("X"),), (pos("q", (var("X"),)),), 0, kind)
            self.assertEqual(links([rule]), {"p": {"q": True}, "q": {}})


if __name__ == "__main__":
    unittest.main()
