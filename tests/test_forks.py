"""Forks, [27] (with [11], [18] and [34]): versions grown, met, joined, told apart, and their clashes."""

import random
import unittest

import oracle
from deducehall.engines import many_changes
from deducehall.errors import BadKind, DeduceFault, NoSuch
from deducehall.forks import Forks, Version, clash, fresh, together
from deducehall.stores import Changes, apart, store_of

RULES = "path(X, Y) :- edge(X, Y). path(X, Z) :- edge(X, Y), path(Y, Z)."


def changes_of(came="", went=""):
    steps = [(name, row, False) for name, row in oracle.facts_of(went)]
    return many_changes(steps + [(name, row, True) for name, row in oracle.facts_of(came)])


def facts_at(forks, number):
    return tuple(forks.version(number).kept)


def state_of(forks):
    return [(one.number, one.parents, tuple(one.kept)) for one in forks.versions]


class ForksCase(unittest.TestCase):
    def refused(self, error, forks, deed, *arguments):
        before = state_of(forks)
        with self.assertRaises(error) as caught:
            deed(*arguments)
        self.assertIs(type(caught.exception), error)
        self.assertEqual(state_of(forks), before)


class VersionTest(ForksCase):
    def test_fields(self):
        version = Version(3, [1, 2], [("p", (2,)), ("p", (1,)), ("a", ())])
        self.assertEqual((version.number, tuple(version.parents)), (3, (1, 2)))
        self.assertEqual(sorted(version.kept), [("a", ()), ("p", (1,)), ("p", (2,))])

    def test_the_first_is_bare(self):
        forks = Forks()
        self.assertEqual(state_of(forks), [(0, (), ())])
        self.assertEqual(len(forks.versions), 1)
        self.assertEqual(tuple(forks.rules), ())
        self.assertEqual((forks.way(0), forks.ancestry(0), forks.meeting(0, 0)), ((0,), (0,), 0))

    def test_numbers_that_are_none(self):
        forks = Forks(oracle.rules_of(RULES))
        forks.grow(0, changes_of("edge(1, 2)."))
        for number in (-1, 2, 9):
            for deed, arguments in ((forks.version, (number,)), (forks.grow, (number, Changes())),
                                    (forks.ancestry, (number,)), (forks.meeting, (0, number)), (forks.meeting, (number, 1)),
                                    (forks.between, (number, 0)), (forks.between, (0, number)), (forks.join, (1, number)),
                                    (forks.join, (number, 1)), (forks.engine_of, (number,)),
                                    (forks.told_between, (0, number)), (forks.way, (number,))):
                self.refused(NoSuch, forks, deed, *arguments)


class GrowTest(ForksCase):
    def test_from_any_version(self):
        forks = Forks()
        self.assertEqual(forks.grow(0, changes_of("p(1). q(2).")), 1)
        self.assertEqual(forks.grow(1, changes_of("p(2).", "q(2).")), 2)
        self.assertEqual(forks.grow(0, changes_of("p(3).")), 3)
        self.assertEqual(forks.grow(1, Changes()), 4)
        self.assertEqual([facts_at(forks, number) for number in range(5)], [
            (), (("p", (1,)), ("q", (2,))), (("p", (1,)), ("p", (2,))), (("p", (3,)),), (("p", (1,)), ("q", (2,)))])
        self.assertEqual([tuple(one.parents) for one in forks.versions], [(), (0,), (1,), (0,), (1,)])
        self.assertEqual([one.number for one in forks.versions], [0, 1, 2, 3, 4])

    def test_what_does_not_fit(self):
        forks = Forks()
        forks.grow(0, changes_of("p(1)."))
        for came, went in (("p(1).", ""), ("", "p(2)."), ("p(2).", "q(1)."), ("q(1). p(1).", "")):
            self.refused(NoSuch, forks, forks.grow, 1, changes_of(came, went))
        self.assertEqual(forks.grow(1, changes_of("p(2).")), 2)

    def test_a_second_beginning_meets_the_first_nowhere(self):
        forks = Forks()
        self.assertEqual(forks.add((), store_of([("p", (1,))])), 1)
        self.assertEqual((forks.way(1), forks.ancestry(1)), ((1,), (1,)))
        self.refused(NoSuch, forks, forks.meeting, 0, 1)
        self.refused(NoSuch, forks, forks.join, 1, 0)

    def test_add_a_store(self):
        forks = Forks()
        forks.grow(0, changes_of("p(1)."))
        store = store_of([("q", (2,)), ("p", (5,))])
        self.assertEqual(forks.add((1, 0), store), 2)
        store.of("q").add((7,))
        self.assertEqual(facts_at(forks, 2), (("p", (5,)), ("q", (2,))))
        self.assertEqual(tuple(forks.version(2).parents), (1, 0))


class MeetingTest(ForksCase):
    def setUp(self):
        """0 to 1; 1 to 2 and 3; 4 joins 2 and 3; 5 from 2, 6 from 3; 7 joins 5 and 4; 8 from 0."""
        self.forks = Forks()
        for number, name in ((0, "a"), (1, "b"), (1, "c")):
            self.forks.grow(number, changes_of(f"{name}."))
        self.assertEqual(self.forks.join(2, 3), 4)
        self.forks.grow(2, changes_of("d."))
        self.forks.grow(3, changes_of("e.", "c."))
        self.assertEqual(self.forks.join(5, 4), 7)
        self.forks.grow(0, changes_of("f."))

    def test_ancestry(self):
        self.assertEqual([self.forks.ancestry(number) for number in range(9)], [
            (0,), (0, 1), (0, 1, 2), (0, 1, 3), (0, 1, 2, 3, 4), (0, 1, 2, 5), (0, 1, 3, 6), (0, 1, 2, 3, 4, 5, 7), (0, 8)])

    def test_the_latest_that_both_came_from(self):
        for one, other, number in ((2, 3, 1), (5, 6, 1), (5, 4, 2), (6, 4, 3), (7, 6, 3), (7, 5, 5), (4, 7, 4), (8, 7, 0),
                                   (6, 6, 6), (1, 5, 1), (0, 3, 0)):
            self.assertEqual(self.forks.meeting(one, other), number, (one, other))
            self.assertEqual(self.forks.meeting(other, one), number, (one, other))

    def test_way_by_first_parents(self):
        self.assertEqual([self.forks.way(number) for number in range(9)], [
            (0,), (0, 1), (0, 1, 2), (0, 1, 3), (0, 1, 2, 4), (0, 1, 2, 5), (0, 1, 3, 6), (0, 1, 2, 5, 7), (0, 8)])

    def test_joined_over_a_meeting_that_is_not_the_nearest_parent(self):
        # 7 and 6 meet in 3, which has c: 6 hasn't, so it is gone; what either has besides is there.
        self.assertEqual([name for name, _ in facts_at(self.forks, 7)], ["a", "b", "c", "d"])
        self.assertEqual([name for name, _ in facts_at(self.forks, 6)], ["a", "e"])
        self.assertEqual(self.forks.join(7, 6), 9)
        self.assertEqual([name for name, _ in facts_at(self.forks, 9)], ["a", "b", "d", "e"])
        self.assertEqual(tuple(self.forks.version(9).parents), (7, 6))

    def test_joined_with_itself_or_its_own_parent(self):
        for one, other in ((5, 5), (5, 2), (2, 5), (0, 5), (7, 4)):
            number = self.forks.join(one, other)
            self.assertEqual(facts_at(self.forks, number), facts_at(self.forks, max(one, other)))


class TogetherTest(unittest.TestCase):
    def test_each_way_a_fact_may_stand(self):
        # A fact's letters tell where it is: s in the start, a in the one, b in the other.
        names = ["s", "a", "b", "sa", "sb", "ab", "sab"]
        stores = [store_of([("p", (name,)) for name in names if letter in name]) for letter in "sab"]
        before = [store.shown() for store in stores]
        self.assertEqual(together(*stores).shown(), (("p", (("a",), ("ab",), ("b",), ("sab",))),))
        self.assertEqual([store.shown() for store in stores], before)

    def test_nothing(self):
        bare = store_of([])
        self.assertEqual(together(bare, bare, bare).shown(), ())
        full = store_of([("p", (1,))])
        self.assertEqual(together(full, bare, full).shown(), ())
        self.assertEqual(together(bare, bare, full).shown(), full.shown())


class BetweenTest(ForksCase):
    def test_facts_and_all_rows_told(self):
        forks = Forks(oracle.rules_of(RULES))
        forks.grow(0, changes_of("edge(1, 2). on."))
        forks.grow(1, changes_of("edge(2, 3).", "on."))
        forks.grow(0, changes_of("edge(1, 3)."))
        self.assertEqual(forks.between(1, 2).shown(), (("edge", ((2, 3),), ()), ("on", (), ((),))))
        self.assertEqual(forks.between(2, 1).shown(), (("edge", (), ((2, 3),)), ("on", ((),), ())))
        self.assertEqual(forks.told_between(1, 2).shown(), (
            ("edge", ((2, 3),), ()), ("on", (), ((),)), ("path", ((1, 3), (2, 3)), ())))
        self.assertEqual(forks.told_between(2, 3).shown(), (
            ("edge", ((1, 3),), ((1, 2), (2, 3))), ("path", (), ((1, 2), (2, 3)))))
        for number in range(4):
            self.assertTrue(forks.between(number, number).is_bare())
            self.assertTrue(forks.told_between(number, number).is_bare())

    def test_an_engine_of_a_version(self):
        forks = Forks(oracle.rules_of(RULES))
        forks.grow(0, changes_of("edge(1, 2). edge(2, 3)."))
        engine = forks.engine_of(1)
        self.assertEqual(engine.rows("path"), ((1, 2), (1, 3), (2, 3)))
        engine.put("edge", (3, 4))
        self.assertEqual(facts_at(forks, 1), (("edge", (1, 2)), ("edge", (2, 3))))
        self.assertEqual(forks.engine_of(0).shown(), ())

    def test_what_engines_refuse(self):
        forks = Forks(oracle.rules_of(RULES))
        forks.grow(0, changes_of("edge(1)."))
        self.refused(BadKind, forks, forks.engine_of, 1)
        self.refused(BadKind, forks, forks.told_between, 0, 1)


class ClashTest(unittest.TestCase):
    def test_fresh(self):
        start = store_of(oracle.facts_of("p(1). q(5)."))
        store = store_of(oracle.facts_of("p(w). p(3). p(1). p(-1). q(6)."))
        self.assertEqual(fresh(start, store, "p"), [(-1,), (3,), ("w",)])
        self.assertEqual(fresh(start, store, "q"), [(6,)])
        self.assertEqual(fresh(start, store, "other"), [])
        self.assertEqual(fresh(store, start, "p"), [])

    def test_values_for_which_both_have_new_rows(self):
        start = store_of(oracle.facts_of("age(ann, 1). age(bob, 2)."))
        one = store_of(oracle.facts_of("age(ann, 3). age(bob, 2). age(cy, 5). age(w, 1). age(7, 7). age(dee, 4)."))
        other = store_of(oracle.facts_of("age(ann, 4). age(bob, 6). age(cy, 5). age(w, 2). age(7, 8)."))
        self.assertEqual(clash(start, one, other, "age", (0,)), ((7,), ("ann",), ("w",)))
        self.assertEqual(clash(start, other, one, "age", [0]), ((7,), ("ann",), ("w",)))
        self.assertEqual(clash(start, one, other, "age", (1,)), ((4,),))
        self.assertEqual(clash(start, one, other, "age", (0, 1)), ())
        self.assertEqual(clash(start, one, other, "age", ()), ((),))
        self.assertEqual(clash(start, one, one, "age", (0,)), ())
        self.assertEqual(clash(start, one, other, "none", (0,)), ())

    def test_places_in_another_order(self):
        bare = store_of([])
        one = store_of(oracle.facts_of("p(1, 2, 3). p(2, 1, 3)."))
        other = store_of(oracle.facts_of("p(1, 2, 4). p(2, 1, 5)."))
        self.assertEqual(clash(bare, one, other, "p", (1, 0)), ((1, 2), (2, 1)))
        self.assertEqual(clash(bare, one, other, "p", (2,)), ())

    def test_rows_with_fewer_places_clash_nowhere(self):
        bare = store_of([])
        self.assertEqual(clash(bare, store_of([("p", (1,)), ("p", ())]), store_of([("p", (2,)), ("p", (3, 4))]), "p", (1,)), ())

    def test_the_others_row_that_the_one_has_does_not_clash(self):
        bare = store_of([])
        one = store_of(oracle.facts_of("p(1, 2). p(1, 3)."))
        other = store_of(oracle.facts_of("p(1, 2)."))
        self.assertEqual(clash(bare, one, other, "p", (0,)), ())
        self.assertEqual(clash(bare, other, one, "p", (0,)), ((1,),))


class DrawnTest(unittest.TestCase):
    def test_runs(self):
        refused = 0
        for seed in range(60):
            chosen = random.Random(seed)
            forks = Forks(oracle.drawn_rules(chosen, 3))
            sets = [set()]
            parents = [()]
            for _ in range(8):
                one, other = chosen.randrange(len(sets)), chosen.randrange(len(sets))
                if chosen.random() < 0.5:
                    steps = oracle.drawn_steps(chosen, 4, lambda name, row: (name, row) in sets[one])
                    if chosen.random() < 0.2:
                        name, row, came = steps[0]
                        steps[0] = name, row, not came
                    changes = many_changes(steps)
                    try:
                        number = forks.grow(one, changes)
                    except DeduceFault as fault:
                        refused += 1
                        self.assertIs(type(fault), NoSuch)
                        continue
                    sets.append(sets[one] ^ {(name, row) for name, row, _ in steps})
                    parents.append((one,))
                else:
                    number = forks.join(one, other)
                    start = sets[self.meeting(parents, one, other)]
                    sets.append((sets[one] & sets[other]) | ((sets[one] | sets[other]) - start))
                    parents.append((one, other))
                self.assertEqual(number, len(sets) - 1)
                self.assertEqual(set(facts_at(forks, number)), sets[number])
                self.assertEqual(tuple(forks.version(number).parents), parents[number])
                engine = forks.engine_of(number)
                self.assertEqual(engine.shown(), oracle.shown(oracle.model_of(forks.rules, facts_at(forks, number))))
                self.assertEqual(forks.told_between(one, number).shown(),
                                 apart(forks.engine_of(one).store, engine.store).shown())
                if forks.between(one, other).is_bare():
                    self.assertEqual(sets[one], sets[other])
                elif one != other:
                    self.assertEqual(facts_at(forks, forks.grow(one, forks.between(one, other))), facts_at(forks, other))
                    sets.append(sets[other])
                    parents.append((one,))
        self.assertGreater(refused, 10)

    def meeting(self, parents, one, other):
        def above(number):
            return {number}.union(*[above(parent) for parent in parents[number]])
        return max(above(one) & above(other))


if __name__ == "__main__":
    unittest.main()
