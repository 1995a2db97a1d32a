"""Stores, [11]: relations looked up, as they were before some changes, changes that cancel, changes laid on."""

import itertools
import random
import unittest

from deducehall.errors import NoSuch
from deducehall.stores import Before, Changes, Relation, Store, apart, laid_on, picked, store_of
from deducehall.terms import in_order


def naive_look(rows, places, values):
    pairs = list(zip(places, values))
    return [row for row in rows if all(place < len(row) and row[place] == value for place, value in pairs)]


def changes_of(steps):
    changes = Changes()
    for name, row, came in steps:
        changes.note(name, row, came)
    return changes


class PickedTest(unittest.TestCase):
    def test_values_at_places(self):
        self.assertEqual(picked((1, "a", 2), (2, 0)), (2, 1))
        self.assertEqual(picked((1, "a"), ()), ())
        self.assertEqual(picked((), ()), ())
        self.assertEqual(picked((1,), [0, 0]), (1, 1))

    def test_fewer_places(self):
        self.assertIsNone(picked((1,), (1,)))
        self.assertIsNone(picked((1,), (0, 1)))
        self.assertIsNone(picked((), (0,)))


class RelationTest(unittest.TestCase):
    def test_each_row_once(self):
        relation = Relation([(1,), (2,), (1,)])
        self.assertEqual(relation.size(), 2)
        self.assertIs(relation.add((2,)), False)
        self.assertIs(relation.add(("2",)), True)
        self.assertIs(relation.add(("2",)), False)
        self.assertEqual(relation.rows(), ((1,), (2,), ("2",)))
        self.assertIs(relation.has((2,)), True)
        self.assertIs(relation.has((3,)), False)

    def test_taken_out_twice(self):
        relation = Relation([(1,), (2,)])
        self.assertIs(relation.drop((1,)), True)
        self.assertIs(relation.drop((1,)), False)
        self.assertIs(relation.drop(("2",)), False)
        self.assertEqual((relation.rows(), relation.size()), (((2,),), 1))
        self.assertIs(relation.add((1,)), True)
        self.assertEqual(relation.size(), 2)

    def test_bare(self):
        relation = Relation()
        self.assertEqual((relation.rows(), relation.size(), relation.look((), ())), ((), 0, []))
        self.assertEqual(relation.look((0,), (1,)), [])
        self.assertIs(relation.drop((1,)), False)

    def test_look(self):
        relation = Relation([(1, "a"), (1, "b"), (2, "a"), ("1", "a"), (1,), ()])
        self.assertIsInstance(relation.look((0,), (1,)), list)
        self.assertEqual(in_order(relation.look((0,), (1,))), ((1,), (1, "a"), (1, "b")))
        self.assertEqual(in_order(relation.look((0,), ("1",))), (("1", "a"),))
        self.assertEqual(in_order(relation.look((1,), ("a",))), ((1, "a"), (2, "a"), ("1", "a")))
        self.assertEqual(relation.look((0, 1), (1, "b")), [(1, "b")])
        self.assertEqual(relation.look((1, 0), ("b", 1)), [(1, "b")])
        self.assertEqual(relation.look([1], ["b"]), [(1, "b")])
        self.assertEqual(relation.look((0,), (3,)), [])
        self.assertEqual(in_order(relation.look((), ())), relation.rows())

    def test_rows_with_fewer_places_never(self):
        relation = Relation([(1,), (1, 2), ()])
        self.assertEqual(relation.look((1,), (2,)), [(1, 2)])
        self.assertEqual(relation.look((2,), (2,)), [])
        self.assertEqual(relation.look((5, 0), (None, 1)), [])
        relation.add((1, 2, 3))
        relation.add((4,))
        self.assertEqual(relation.look((2,), (3,)), [(1, 2, 3)])
        self.assertIs(relation.drop((4,)), True)
        self.assertIs(relation.drop(()), True)
        self.assertEqual(relation.look((2,), (3,)), [(1, 2, 3)])

    def test_changed_behind_a_look(self):
        relation = Relation([(1, 2)])
        self.assertEqual(relation.look((0,), (1,)), [(1, 2)])
        relation.add((1, 3))
        relation.add((2, 3))
        self.assertEqual(in_order(relation.look((0,), (1,))), ((1, 2), (1, 3)))
        self.assertEqual(relation.look((0,), (2,)), [(2, 3)])
        relation.drop((1, 2))
        relation.drop((2, 3))
        self.assertEqual(relation.look((0,), (1,)), [(1, 3)])
        self.assertEqual(relation.look((0,), (2,)), [])
        self.assertEqual(relation.look((), ()), [(1, 3)])

    def test_what_look_gave_is_ones_own(self):
        relation = Relation([(1, 2), (1, 3)])
        for places, values in (((0,), (1,)), ((), ())):
            found = relation.look(places, values)
            found.clear()
            self.assertEqual(len(relation.look(places, values)), 2)
            for row in relation.look(places, values):
                relation.drop(row)
            self.assertEqual(relation.size(), 0)
            relation = Relation([(1, 2), (1, 3)])

    def test_twin(self):
        relation = Relation([(1,), (2,)])
        relation.look((0,), (1,))
        twin = relation.twin()
        twin.add((3,))
        twin.drop((1,))
        relation.add((4,))
        self.assertEqual(relation.rows(), ((1,), (2,), (4,)))
        self.assertEqual(twin.rows(), ((2,), (3,)))
        self.assertEqual((relation.look((0,), (1,)), twin.look((0,), (1,))), ([(1,)], []))

    def test_against_plain_rows(self):
        chosen = random.Random(5)
        for _ in range(60):
            relation, rows = Relation(), []
            for _ in range(40):
                row = tuple(chosen.choice((1, 2, "1")) for _ in range(chosen.randint(0, 3)))
                if chosen.random() < 0.6:
                    self.assertIs(relation.add(row), row not in rows)
                    rows = rows if row in rows else rows + [row]
                else:
                    self.assertIs(relation.drop(row), row in rows)
                    rows = [other for other in rows if other != row]
                self.assertIs(relation.has(row), row in rows)
                self.assertEqual(relation.size(), len(rows))
                places = tuple(chosen.sample(range(4), chosen.randint(0, 2)))
                values = tuple(chosen.choice((1, 2, "1")) for _ in places)
                self.assertEqual(in_order(relation.look(places, values)), in_order(naive_look(rows, places, values)))
            self.assertEqual(relation.rows(), in_order(rows))


class BeforeTest(unittest.TestCase):
    def test_as_it_was(self):
        relation = Relation([(1, "a"), (2, "b"), (3, "a")])
        relation.add((4, "a"))
        relation.drop((2, "b"))
        before = Before(relation, [(4, "a")], [(2, "b")])
        self.assertEqual(before.rows(), ((1, "a"), (2, "b"), (3, "a")))
        self.assertEqual(before.size(), 3)
        self.assertEqual([before.has((number, sign)) for number, sign in ((1, "a"), (2, "b"), (4, "a"), (5, "a"))],
                         [True, True, False, False])
        self.assertIsInstance(before.look((1,), ("a",)), list)
        self.assertEqual(in_order(before.look((1,), ("a",))), ((1, "a"), (3, "a")))
        self.assertEqual(before.look((1,), ("b",)), [(2, "b")])
        self.assertEqual(before.look([0], [4]), [])
        self.assertEqual(in_order(before.look((), ())), before.rows())
        self.assertEqual(relation.rows(), ((1, "a"), (3, "a"), (4, "a")))

    def test_without_changes(self):
        relation = Relation([(1,)])
        before = Before(relation, [], [])
        self.assertEqual((before.rows(), before.size(), before.look((0,), (1,))), (((1,),), 1, [(1,)]))

    def test_places_that_rows_lack(self):
        before = Before(Relation([(1,)]), [(1,)], [(2,), (2, 3), ()])
        self.assertEqual(before.look((1,), (3,)), [(2, 3)])
        self.assertEqual(before.look((2,), (3,)), [])
        self.assertEqual((before.rows(), before.size()), (((), (2,), (2, 3)), 3))

    def test_as_many_as_its_rows(self):
        before = Before(Relation([(1,), (2,), (5,)]), [(1,), (3,), (5,)], [(1,), (2,), (5,)])
        self.assertEqual((before.rows(), before.size()), (((1,), (2,), (5,)), 3))

    def test_fields(self):
        relation = Relation([(1,)])
        before = Before(relation, [(1,)], [(2,)])
        self.assertIs(before.now, relation)
        self.assertEqual((list(before.added), list(before.dropped)), ([(1,)], [(2,)]))

    def test_after_any_run_of_changes(self):
        chosen = random.Random(6)
        rows = [tuple(row) for many in range(3) for row in itertools.product((1, 2), repeat=many)]
        for _ in range(100):
            start = chosen.sample(rows, chosen.randint(0, len(rows)))
            relation, changes = Relation(start), Changes()
            for _ in range(chosen.randint(0, 15)):
                row = chosen.choice(rows)
                came = not relation.has(row)
                self.assertIs(relation.add(row) if came else relation.drop(row), True)
                changes.note("p", row, came)
            before = Before(relation, changes.came("p"), changes.went("p"))
            self.assertEqual(before.rows(), in_order(start))
            self.assertEqual(before.size(), len(start))
            for row in rows:
                self.assertIs(before.has(row), row in start)
            for places in ((), (0,), (1,), (1, 0), (2,)):
                for values in itertools.product((1, 2), repeat=len(places)):
                    self.assertEqual(in_order(before.look(places, values)), in_order(naive_look(start, places, values)))


class StoreTest(unittest.TestCase):
    def test_relations_by_names(self):
        store = Store()
        self.assertEqual((store.names(), store.size(), store.shown()), ((), 0, ()))
        self.assertIs(store.has("p", (1,)), False)
        self.assertEqual(store.of("p").rows(), ())
        self.assertEqual((store.names(), store.shown()), ((), ()))
        store.of("q").add((2,))
        store.of("q").add((1,))
        store.of("a").add(())
        self.assertEqual((store.names(), store.size()), (("a", "q"), 3))
        self.assertEqual(store.shown(), (("a", ((),)), ("q", ((1,), (2,)))))
        self.assertIs(store.has("q", (1,)), True)
        self.assertIs(store.has("q", ("1",)), False)
        self.assertIs(store.has("p", (1,)), False)
        store.of("a").drop(())
        self.assertEqual((store.names(), store.size()), (("q",), 2))

    def test_the_same_relation_each_time(self):
        store = Store()
        self.assertIs(store.of("p"), store.of("p"))

    def test_twin(self):
        store = store_of([("p", (1,)), ("q", (2,))])
        twin = store.twin()
        twin.of("p").add((3,))
        store.of("q").drop((2,))
        self.assertEqual(store.shown(), (("p", ((1,),)),))
        self.assertEqual(twin.shown(), (("p", ((1,), (3,))), ("q", ((2,),))))

    def test_store_of(self):
        self.assertEqual(store_of([("q", (2,)), ("p", ()), ("q", (1,)), ("q", (2,))]).shown(),
                         (("p", ((),)), ("q", ((1,), (2,)))))
        self.assertEqual(store_of(()).shown(), ())


class ChangesTest(unittest.TestCase):
    def test_what_came_and_went(self):
        changes = changes_of([("p", (2,), True), ("p", (1,), True), ("a", (), False), ("p", (3,), False)])
        self.assertIsInstance(changes.came("p"), list)
        self.assertEqual((in_order(changes.came("p")), changes.went("p")), (((1,), (2,)), [(3,)]))
        self.assertEqual((changes.came("a"), changes.went("a")), ([], [()]))
        self.assertEqual((changes.came("x"), changes.went("x")), ([], []))
        self.assertEqual(changes.names(), ("a", "p"))
        self.assertEqual(changes.shown(), (("a", (), ((),)), ("p", ((1,), (2,)), ((3,),))))
        self.assertIs(changes.is_bare(), False)

    def test_what_comes_back_cancels(self):
        for run, came, went in (
                ("", (), ()), ("+", ((1,),), ()), ("-", (), ((1,),)), ("+-", (), ()), ("-+", (), ()),
                ("++", ((1,),), ()), ("--", (), ((1,),)), ("+-+", ((1,),), ()), ("-+-", (), ((1,),)),
                ("+-+-", (), ()), ("++-", (), ()), ("--+", (), ()), ("+--", (), ((1,),)), ("-++", ((1,),), ())):
            changes = changes_of([("p", (1,), sign == "+") for sign in run])
            self.assertEqual((tuple(changes.came("p")), tuple(changes.went("p"))), (came, went), run)
            self.assertEqual(changes.shown(), (("p", came, went),) if came + went else (), run)
            self.assertIs(changes.is_bare(), came + went == (), run)
            self.assertEqual(changes.names(), ("p",) if came + went else (), run)

    def test_rows_and_names_apart(self):
        changes = changes_of([("p", (1,), True), ("p", ("1",), False), ("q", (1,), False)])
        self.assertEqual(changes.shown(), (("p", ((1,),), (("1",),)), ("q", (), ((1,),))))

    def test_turned(self):
        changes = changes_of([("p", (1,), True), ("q", (2,), False)])
        turned = changes.turned()
        self.assertEqual(turned.shown(), (("p", (), ((1,),)), ("q", ((2,),), ())))
        turned.note("p", (1,), True)
        self.assertEqual(changes.shown(), (("p", ((1,),), ()), ("q", (), ((2,),))))
        self.assertIs(Changes().turned().is_bare(), True)

    def test_fields(self):
        changes = Changes()
        self.assertEqual((changes.added, changes.dropped), ({}, {}))


class LaidOnTest(unittest.TestCase):
    def test_apart(self):
        one = store_of([("p", (1,)), ("p", (2,)), ("q", ())])
        other = store_of([("p", (2,)), ("p", ("1",)), ("r", (3,))])
        changes = apart(one, other)
        self.assertEqual(changes.shown(), (("p", (("1",),), ((1,),)), ("q", (), ((),)), ("r", ((3,),), ())))
        self.assertEqual(apart(other, one).shown(), changes.turned().shown())
        self.assertIs(apart(one, one.twin()).is_bare(), True)
        laid_on(one, changes)
        self.assertEqual(one.shown(), other.shown())

    def test_laid_on(self):
        store = store_of([("p", (1,))])
        self.assertIsNone(laid_on(store, changes_of([("p", (1,), False), ("p", (2,), True), ("a", (), True)])))
        self.assertEqual(store.shown(), (("a", ((),)), ("p", ((2,),))))
        laid_on(store, Changes())
        self.assertEqual(store.shown(), (("a", ((),)), ("p", ((2,),))))

    def test_what_does_not_fit_changes_nothing(self):
        for step in (("p", (1,), True), ("p", (3,), False), ("q", (1,), False), ("z", (), False), ("p", ("1",), False)):
            for others in ([], [("p", (2,), False), ("p", (4,), True), ("a", (1,), True), ("zz", (1,), True)]):
                store = store_of([("p", (1,)), ("p", (2,))])
                shown = store.shown()
                with self.assertRaises(NoSuch):
                    laid_on(store, changes_of(others + [step]))
                self.assertEqual(store.shown(), shown)

    def test_there_and_back(self):
        chosen = random.Random(7)
        facts = [(name, (number,)) for name in "pq" for number in range(4)]
        for _ in range(100):
            one = store_of(chosen.sample(facts, chosen.randint(0, 8)))
            other = store_of(chosen.sample(facts, chosen.randint(0, 8)))
            changes, start = apart(one, other), one.shown()
            laid_on(one, changes)
            self.assertEqual(one.shown(), other.shown())
            laid_on(one, changes.turned())
            self.assertEqual(one.shown(), start)


if __name__ == "__main__":
    unittest.main()
