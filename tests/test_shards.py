"""Shards, [30] (with [13] and [34]): a net of places that may turn, double and drop what is sent."""

import random
import unittest

import oracle
from deducehall.errors import BadLayer, NoSuch
from deducehall.shards import Net, Shard, home

RULES = "path(X, Y) :- edge(X, Y). path(X, Z) :- edge(X, Y), path(Y, Z)."


def rules(text=RULES):
    return oracle.rules_of(text)


def state_of(net):
    return net.shown(), list(net.ways)


class NetCase(unittest.TestCase):
    def refused(self, net, deed, *arguments):
        before = state_of(net)
        with self.assertRaises(NoSuch) as caught:
            deed(*arguments)
        self.assertIs(type(caught.exception), NoSuch)
        self.assertEqual(state_of(net), before)


class HomeTest(unittest.TestCase):
    def test_by_the_first_value(self):
        for row, many, number in (((), 5, 0), ((7,), 5, 2), ((-7,), 5, 2), ((0, 3), 4, 0), (("a", 9), 5, 97 % 5),
                                  (("ab",), 7, (97 + 98) % 7), (("",), 3, 0), (("7",), 10, 55 % 10), ((12, "x"), 1, 0),
                                  ((-999999999999999999,), 10, 9), (("ba", 1), 7, (97 + 98) % 7), (("\u2028",), 100, 32)):
            self.assertEqual(home(row, many), number, (row, many))


class RulesTest(unittest.TestCase):
    def test_rules_that_are_refused(self):
        for text in ("h(X) :- p(X), not q(X).", "h(count(X)) :- p(X).", "h(Y) :- p(X), Y := X + 1.", "h(1).", "h(1) :- 1 < 2.",
                     "h(1) :- not p(1)."):
            for some in (text, RULES + text, text + RULES):
                with self.assertRaises(BadLayer) as caught:
                    Net(rules(some), 2)
                self.assertIs(type(caught.exception), BadLayer)

    def test_rules_that_are_taken(self):
        for text in ("", RULES, "h(X) :- p(X), X < 3.", "h(X) :- h(X)."):
            net = Net(rules(text), 3)
            self.assertEqual((len(net.shards), list(net.ways), net.shown()), (3, [], ((), (), ())))


class ShardTest(unittest.TestCase):
    def test_meet(self):
        shard = Shard(rules())
        self.assertIs(shard.meet("edge", (1, 2)), True)
        self.assertIs(shard.meet("edge", (1, 2)), False)
        self.assertIs(shard.meet("other", ()), True)
        self.assertEqual(shard.store.shown(), (("edge", ((1, 2),)), ("other", ((),))))

    def test_think_of_the_first_new_row(self):
        shard = Shard(rules())
        self.assertEqual(shard.think(), ())
        shard.meet("edge", (2, 3))
        shard.meet("edge", (1, 2))
        self.assertEqual(shard.think(), (("path", (2, 3)),))
        self.assertEqual(set(shard.think()), {("path", (1, 2)), ("path", (1, 3))})
        for _ in range(3):
            self.assertEqual(shard.think(), ())
        self.assertEqual(list(shard.fresh), [])
        self.assertEqual(shard.think(), ())

    def test_what_follows_is_new_in_turn(self):
        shard = Shard(rules("b(X) :- a(X). c(X) :- b(X). d(X) :- c(X), a(X)."))
        shard.meet("a", (1,))
        self.assertEqual([shard.think() for _ in range(5)], [
            (("b", (1,)),), (("c", (1,)),), (("d", (1,)),), (), ()])

    def test_what_is_there_is_not_told_again(self):
        shard = Shard(rules())
        shard.meet("path", (1, 2))
        shard.meet("edge", (1, 2))
        self.assertEqual([shard.think(), shard.think()], [(), ()])

    def test_think_through(self):
        shard = Shard(rules())
        for row in ((1, 2), (2, 3), (3, 1)):
            shard.meet("edge", row)
        found = shard.think_through()
        self.assertIs(type(found), tuple)
        self.assertEqual(sorted(found), [("path", (one, other)) for one in (1, 2, 3) for other in (1, 2, 3)])
        self.assertEqual((shard.think_through(), list(shard.fresh)), ((), []))

    def test_a_row_that_stands_at_two_parts(self):
        shard = Shard(rules("t(X, Z) :- t(X, Y), t(Y, Z). h(X) :- t(X, X), t(X, Y), X < 5."))
        shard.meet("t", (1, 1))
        self.assertEqual(shard.think_through(), (("h", (1,)),))


class WaysTest(NetCase):
    def test_put_at_home_and_sent_to_all_others(self):
        net = Net(rules(), 3)
        self.assertEqual(net.put("edge", (4, 2)), 1)
        self.assertEqual(state_of(net), (((), (("edge", ((4, 2),)),), ()), [(0, "edge", (4, 2)), (2, "edge", (4, 2))]))
        self.assertEqual(net.put("edge", (4, 2)), 1)
        self.assertEqual(len(net.ways), 2)
        self.assertEqual(net.put("on", ()), 0)
        self.assertEqual(list(net.ways)[2:], [(1, "on", ()), (2, "on", ())])

    def test_what_is_brought_is_not_sent_on(self):
        net = Net(rules(), 3)
        net.put("edge", (0, 2))
        self.assertIs(net.bring(1), True)
        self.assertEqual(list(net.ways), [(1, "edge", (0, 2))])
        self.assertEqual(net.shards[2].store.shown(), (("edge", ((0, 2),)),))
        net.double(0)
        self.assertIs(net.bring(0), True)
        self.assertIs(net.bring(0), False)
        self.assertEqual(list(net.ways), [])

    def test_what_is_thought_of_is_sent_on(self):
        net = Net(rules(), 3)
        net.put("edge", (0, 2))
        net.bring(1)
        self.assertEqual(net.think(2), (("path", (0, 2)),))
        self.assertEqual(list(net.ways), [(1, "edge", (0, 2)), (0, "path", (0, 2)), (1, "path", (0, 2))])
        self.assertEqual(net.think(2), ())
        self.assertEqual(net.think(1), ())
        self.assertEqual(len(net.ways), 3)

    def test_turned_doubled_and_dropped(self):
        net = Net((), 4)
        net.put("p", (1,))
        net.put("p", (2,))
        one, two = [(number, "p", (1,)) for number in (0, 2, 3)], [(number, "p", (2,)) for number in (0, 1, 3)]
        self.assertEqual(list(net.ways), one + two)
        self.assertIs(net.double(1), None)
        self.assertEqual(list(net.ways), one + two + [(2, "p", (1,))])
        self.assertIs(net.drop(0), None)
        self.assertEqual(list(net.ways), one[1:] + two + [(2, "p", (1,))])
        net.bring(4)
        self.assertEqual(list(net.ways), one[1:] + two[:2] + [(2, "p", (1,))])
        self.assertEqual(net.shards[3].store.shown(), (("p", ((2,),)),))

    def test_places_that_are_none(self):
        net = Net(rules(), 2)
        net.put("edge", (1, 2))
        for place in (-1, 1, 5):
            for deed in (net.bring, net.double, net.drop):
                self.refused(net, deed, place)
        for number in (-1, 2, 7):
            self.refused(net, net.think, number)
            self.refused(net, net.even_out, number, 0)
            self.refused(net, net.even_out, 0, number)

    def test_evened_out(self):
        net = Net(rules(), 3)
        for row in ((0, 1), (3, 4), (1, 1)):
            net.put("edge", row)
        net.drop(0)
        self.assertEqual(net.even_out(1, 0), 2)
        self.assertEqual(net.even_out(1, 0), 0)
        self.assertEqual(net.even_out(0, 1), 1)
        self.assertEqual(net.even_out(2, 2), 0)
        self.assertEqual(net.shown()[0], net.shown()[1])
        self.assertEqual(net.shown()[2], ())
        self.assertEqual(len(net.ways), 5)
        self.assertIn(("path", (3, 4)), net.shards[1].think_through())


class SettledTest(NetCase):
    def settled(self, net, facts):
        model = oracle.shown(oracle.model_of(net.shards[0].rules, facts))
        net.settle()
        self.assertEqual(list(net.ways), [])
        self.assertEqual(net.shown(), (model,) * len(net.shards))
        self.assertEqual(net.settle(), 0)
        self.assertEqual(net.shown(), (model,) * len(net.shards))

    def test_rounds_that_had_something_new(self):
        self.assertEqual(Net(rules(), 3).settle(), 0)
        net = Net(rules(), 3)
        net.put("edge", (1, 2))
        self.assertGreater(net.settle(), 0)
        net = Net((), 3)
        net.put("edge", (1, 2))
        self.assertEqual(net.settle(), 1)

    def test_all_that_is_on_its_way_dropped(self):
        net = Net(rules(), 3)
        facts = oracle.facts_of("edge(1, 2). edge(2, 3). edge(3, 4). edge(4, 1). on.")
        for name, row in facts:
            net.put(name, row)
        while net.ways:
            net.drop(0)
        self.settled(net, facts)

    def test_one_place_alone(self):
        net = Net(rules(), 1)
        facts = oracle.facts_of("edge(1, 2). edge(a, 1). edge(2, a).")
        self.assertEqual([net.put(name, row) for name, row in facts], [0, 0, 0])
        self.assertEqual(list(net.ways), [])
        self.settled(net, facts)

    def test_drawn_nets(self):
        """Each deed held against a net kept by hand, then settled."""
        for seed in range(80):
            chosen = random.Random(seed)
            some = oracle.drawn_rules(chosen, 4, plain=True)
            some = tuple(rule for rule in some if rule.asked("pos"))
            many = chosen.randint(1, 4)
            net = Net(some, many)
            facts = []
            for _ in range(25):
                self.one_deed(chosen, net, facts, many)
            self.settled(net, facts)

    def one_deed(self, chosen, net, facts, many):
        held = [{(name, row) for name, rows in shown for row in rows} for shown in net.shown()]
        ways = list(net.ways)
        word = chosen.choice(("put", "put", "bring", "bring", "double", "drop", "think", "think", "even"))
        if word == "put":
            fact = oracle.drawn_fact(chosen)
            facts.append(fact)
            number = net.put(*fact)
            self.assertEqual(number, home(fact[1], many))
            if fact not in held[number]:
                ways += [(other,) + fact for other in range(many) if other != number]
            held[number].add(fact)
        elif word == "think":
            number = chosen.randrange(many)
            pairs = net.think(number)
            self.assertEqual(len(set(pairs)), len(pairs))
            self.assertFalse(set(pairs) & held[number])
            held[number] |= set(pairs)
            ways += [(other,) + pair for pair in pairs for other in range(many) if other != number]
        elif word == "even":
            one, other = chosen.randrange(many), chosen.randrange(many)
            self.assertEqual(net.even_out(one, other), len(held[other] - held[one]))
            held[one] |= held[other]
        elif ways:
            place = chosen.randrange(len(ways))
            if word == "double":
                net.double(place)
                ways.append(ways[place])
            elif word == "drop":
                net.drop(place)
                del ways[place]
            else:
                number, name, row = ways.pop(place)
                self.assertEqual(net.bring(place), (name, row) not in held[number])
                held[number].add((name, row))
        self.assertEqual(list(net.ways), ways)
        self.assertEqual([{(name, row) for name, rows in shown for row in rows} for shown in net.shown()], held)
        # No place holds more than follows from all that was put in.
        model = oracle.model_of(net.shards[0].rules, facts)
        for rows in held:
            self.assertTrue(all(row in model.get(name, ()) for name, row in rows))


if __name__ == "__main__":
    unittest.main()
