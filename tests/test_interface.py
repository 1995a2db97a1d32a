"""The interface of all modules, as the document lists it, [1] and [34]."""

import importlib
import inspect
import unittest

from deducehall.engines import Engine

# "class NAME(arguments): fields", "NAME.method(arguments)", "function(arguments)", as in the document.
LISTED = {
    "errors": """
        class DeduceFault
        class BadSign
        class BadRule
        class BadKind
        class BadLayer
        class NoSuch
        class BadDeed
        class BadGround
        class BadStore
        class Broken
        class BadSize
    """,
    "signs": """
        class Sign(kind, said, row, column): kind, said, row, column
        Sign.shown()
        Sign.is_mark(said)
        class Cutter(text): text, place, row, begun, signs
        Cutter.at_end()
        Cutter.run(good)
        Cutter.quoted()
        Cutter.signed()
        Cutter.take_number()
        Cutter.mark()
        Cutter.cut_one()
        is_figure(sign)
        is_small(sign)
        is_inner(sign)
        cut(text)
        fault_at(text)
        laid_out(signs)
        marked(said)
    """,
    "terms": """
        class Term(name, value=None): name, value
        Term.is_variable()
        Term.shown()
        Term.under(bound)
        Term.known(bound)
        var(name)
        val(value)
        is_number(value)
        value_key(value)
        row_key(row)
        bound_key(bound)
        in_order(rows)
        names_in(terms)
        filled(terms, bound)
        matched(terms, row, bound)
        pattern(terms, bound)
        led_to(term, links)
        made_alike(one, other)
        put_in(terms, links)
        shown_all(terms)
        renamed(terms, names)
        is_plain(word)
        told_value(value)
        is_kept(name)
        told_term(term)
    """,
    "rules": """
        class Literal(kind, name, terms): kind, name, terms, own
        Literal.names()
        Literal.shown()
        Literal.with_names(names)
        class Rule(name, terms, body, summed=None): name, terms, body, summed, stands
        Rule.names()
        Rule.asked(kind)
        Rule.reckons()
        Rule.shown()
        Rule.with_names(names)
        Rule.plain()
        Rule.group()
        pos(name, terms)
        neg(name, terms)
        held(sign, one, other)
        let(target, deed, one, other)
        summed_rule(name, terms, body, place, kind)
        same_rule(one, other)
        without_repeats(rules)
        told_by(rules, name)
        names_of(rules)
        reckoned(deed, one, other)
        bounded(number)
    """,
    "readers": """
        class Clause(kind, rule, body): kind, rule, body
        Clause.shown()
        class Reader(signs): signs, place, bare
        Reader.at_end()
        Reader.here()
        Reader.is_here(said)
        Reader.take(said)
        Reader.word()
        Reader.term()
        Reader.term_list()
        Reader.summed_here()
        Reader.head()
        Reader.held_or_let()
        Reader.literal()
        Reader.literals()
        Reader.clause()
        read(text)
        read_rule(text)
        told_atom(name, terms)
        told_literal(literal)
        told_body(body)
        told_rule(rule)
        told_clause(clause)
        told(clauses)
    """,
    "safety": """
        needs(rule, number)
        gives(rule, number)
        shared(rule, number, name)
        ready(rule, number, bound)
        limited(rule)
        loose(rule)
        reckoned_twice(rule)
        all_terms(rule)
        too_long(term)
        check_rule(rule)
        is_fact(rule)
        row_of(rule)
        parted(rules)
        is_name(name)
    """,
    "kinds": """
        class Places(): many
        Places.meet(name, count)
        Places.meet_rule(rule)
        Places.count_of(name)
        Places.shown()
        places_of(rules, facts)
        kind_of(value)
        joined(one, other)
        both(one, other)
        start_kinds(facts, rules)
        name_kinds(rule, table)
        lets_through(rule, table, found)
        head_kinds(rule, found)
        kinds_told(rules, facts)
        never(rules, facts)
    """,
    "layers": """
        links(rules)
        reached(table, name)
        rings(rules)
        is_ring(rules, ring)
        check_layers(rules)
        layer_numbers(rules)
        layers(rules)
        way(table, start, end)
        strict_ring(rules)
        above(rules, names)
        below(rules, names)
    """,
    "stores": """
        class Relation(rows=()): held, tables
        Relation.has(row)
        Relation.size()
        Relation.add(row)
        Relation.drop(row)
        Relation.look(places, values)
        Relation.rows()
        Relation.twin()
        class Before(now, added, dropped): now, added, dropped
        Before.has(row)
        Before.size()
        Before.look(places, values)
        Before.rows()
        class Store(): relations
        Store.of(name)
        Store.names()
        Store.has(name, row)
        Store.size()
        Store.twin()
        Store.shown()
        class Changes(): added, dropped
        Changes.note(name, row, came)
        Changes.came(name)
        Changes.went(name)
        Changes.names()
        Changes.is_bare()
        Changes.turned()
        Changes.shown()
        picked(row, places)
        store_of(facts)
        apart(one, other)
        laid_on(store, changes)
    """,
    "plans": """
        class Plan(rule, order, given): rule, order, given
        Plan.bound_at(step)
        Plan.known_places(step)
        Plan.shown()
        weight(rule, number, bound, sizes)
        plan(rule, sizes, first=None, given=())
        binds(rule, number)
        is_plan(rule, order, given=())
        all_plans(rule, given=())
    """,
    "joins": """
        class Views(store, own=None): store, own
        Views.of(rule, number)
        holds_between(sign, one, other)
        none_there(rule, number, bound, relation)
        widened(rule, number, bound, views)
        solutions(rule, order, views, start=None)
        heads(rule, bounds)
        told_names(rule)
        as_key(rule, bound)
    """,
    "sums": """
        class Group(): often, many, whole
        Group.bring(value, way)
        Group.told(kind)
        class Ledger(rule): rule, groups, brought
        Ledger.group_of(bound)
        Ledger.bring(bound, way)
        Ledger.row_of(group)
        Ledger.rows()
        ledger_of(rule, bounds)
        summed_rows(rule, bounds)
        summed(kind, values)
    """,
    "rounds": """
        sizes_of(store, rule)
        whole(rule, store)
        plain_rounds(rules, ring, base, store)
        fresh_rows(rule, ring, store, news)
        first_rows(rules, ring, base, store)
        quick_rounds(rules, ring, base, store)
        model(rules, order, base)
        plain_model(rules, order, base)
        outside(order, base)
    """,
    "counts": """
        class Count(name, rules): name, rules, ways, ledgers, heard
        Count.note(row, way)
        Count.ways_of(row)
        Count.rows()
        Count.count_all(store, base)
        Count.keep_up(store, based, changes)
        Count.told_by(number, rule, steps)
        names_heard(names, rules)
        each_once(rule, bounds)
        changed_ways(rule, store, changes)
        old_views(rule, store, changes)
        touched(rule, number, store, own, rows)
        first_bounds(rule, number, rows)
        bound_by(rule, number, row)
    """,
    "redo": """
        class Redo(ring, rules): ring, rules, plain, summed, sums, heard
        Redo.count_all(store, base)
        Redo.sums_now(store)
        Redo.parted_sums(one, other)
        Redo.first_gone(store, based, changes, lost)
        Redo.all_gone(store, based, changes, lost)
        Redo.still_told(name, row, store, base)
        Redo.first_news(store, based, changes, won)
        Redo.keep_up(store, based, changes, base)
        Redo.put_rounds(store, told)
        head_bound(rule, row)
        ways_to(rule, row, store)
        tells(rule, row, store)
    """,
    "engines": """
        class Engine(rules=(), facts=()): rules, base, places, order, keepers, store
        Engine.check_names(names)
        Engine.places_for(name)
        Engine.lay()
        Engine.facts()
        Engine.rows(name)
        Engine.has(name, row)
        Engine.checked(changes)
        Engine.places_after(name, changes)
        Engine.take_in(based)
        Engine.put(name, row)
        Engine.take(name, row)
        Engine.shown()
        Engine.with_rules(rules)
        Engine.renew(rules, based)
        check_rows(rows)
        one_change(name, row, came)
        many_changes(steps)
    """,
    "grounds": """
        class Ground(name, row, number, bound, parts): name, row, number, bound, parts
        Ground.size()
        Ground.height()
        Ground.shown()
        ranks(engine)
        ring_of(engine, name)
        best_way(engine, table, name, row)
        lower(rule, bound, ring, table, rank)
        ground(engine, name, row, table=None)
        check_ground(rules, facts, told, one)
        needed(rule)
        check_parts(rules, facts, told, one, rule)
        model_table(engine)
        stands(rule, row, ring, store, table, rank)
        check_model(rules, facts, claims)
        nearest(engine, name, row)
    """,
    "costs": """
        class Prices(): of_facts, of_rules
        Prices.price_fact(name, row, price)
        Prices.price_rule(number, price)
        Prices.fact(name, row)
        Prices.rule(number)
        all_ways(engine, name, row)
        summed_ways(engine, name, row)
        way_table(engine)
        cost_of(way, prices, table)
        costs(engine, prices)
        cost(engine, prices, name, row)
        cheapest(engine, prices, name, row, table=None)
        price_of(ground, prices)
        ranked(engine, prices, name)
    """,
    "queries": """
        class Question(body): rule, told_of
        Question.answer(engine)
        Question.all_bounds(engine)
        Question.holds(engine)
        Question.first(engine)
        Question.asks()
        question(text)
        bound_of(text)
        asked(engine, text)
        counted(engine, text)
        grouped(engine, text, many)
        same_answers(one, other, engine)
        bindings(engine, text)
    """,
    "magics": """
        class Magic(rules, name, known): taken, rules, made, called, left, name, spots, target
        Magic.free(name)
        Magic.name_for(name, known)
        Magic.write(key)
        Magic.write_rule(rule, own, seed, known)
        Magic.seed()
        can_be(rules, name)
        magic(rules, name, known)
        quick(rules, facts, name, terms)
        plain(engine, name, terms)
        without_loops(rules)
    """,
    "bounds": """
        class Bounds(): held
        Bounds.set_bound(body, engine)
        Bounds.lift(number)
        Bounds.broken(engine)
        Bounds.check(engine)
        Bounds.touched(changes)
        Bounds.broken_by(engine, changes)
        Bounds.shown()
        only_one(name, places, count)
        stands_in(name, place, count, other, there, many)
    """,
    "watches": """
        class Watch(text, engine): question, last
        Watch.news(engine)
        Watch.rows()
        class Watches(): held
        Watches.set_watch(word, text, engine)
        Watches.lift(word)
        Watches.tell(engine, changes)
        Watches.tell_all(engine)
        gathered(rows, tellings)
    """,
    "holds": """
        class Hold(engine, bounds, watches): engine, bounds, watches, steps, marks, rules, before, kept
        Hold.is_open()
        Hold.begin()
        Hold.must_be_open()
        Hold.put(name, row)
        Hold.take(name, row)
        Hold.with_rules(rules)
        Hold.mark(word)
        Hold.go_back(word)
        Hold.undo(many, rules)
        Hold.throw_away()
        Hold.keep()
        Hold.based()
        at_once(hold, steps)
        done(hold, name, row, came)
    """,
    "logs": """
        figure_of(text)
        fact_text(name, row)
        class Block(number, rules, steps): number, rules, steps
        Block.written()
        Block.shown()
        class Log(): text, many
        Log.write(rules, changes)
        read_fact(text)
        read_rules(lines)
        whole_lines(text)
        read_block(lines)
        is_count(line, word)
        blocks_of(text)
        replayed(text)
    """,
    "saves": """
        saved(engine)
        body_of(text)
        restored(text)
        same(one, other)
        as_block(engine)
        shortened(text, many)
        stages(text)
    """,
    "forks": """
        class Version(number, parents, facts): number, parents, kept
        class Forks(rules=()): rules, versions
        Forks.version(number)
        Forks.grow(number, changes)
        Forks.add(parents, base)
        Forks.ancestry(number)
        Forks.meeting(one, other)
        Forks.between(one, other)
        Forks.join(one, other)
        Forks.engine_of(number)
        Forks.told_between(one, other)
        Forks.way(number)
        together(start, one, other)
        clash(start, one, other, name, places)
        fresh(start, store, name)
    """,
    "compares": """
        is_simple(rule)
        own_mark(rules)
        frozen(rule, mark='?')
        must_be_simple(rules)
        within(one, other)
        answers(rule, facts)
        alike(one, other)
        shortest(rule)
        covers(rule)
        needed_rules(rules)
        witness(one, other)
        like_terms(one, other)
        at_value(rule, name, value)
    """,
    "prunes": """
        wanted(rules, names)
        tidy(rule)
        tidied(rules)
        asks_itself(rule)
        apart_from(rule, other, mark)
        unfolded(rule, number, inner)
        can_unfold(rules, name, based, names)
        put_in_place(rules, name)
        pruned(rules, based, names)
        saving(rules, based, names)
        plain_names(rules)
    """,
    "shards": """
        class Shard(rules): rules, store, fresh
        Shard.meet(name, row)
        Shard.think()
        Shard.think_through()
        class Net(rules, many): shards, ways
        Net.put(name, row)
        Net.send_on(number, pairs)
        Net.think(number)
        Net.bring(place)
        Net.double(place)
        Net.drop(place)
        Net.even_out(one, other)
        Net.settle()
        Net.shown()
        home(row, many)
    """,
    "wells": """
        must_be_plain(rules)
        least_with(rules, base, nots)
        grown(rules, base)
        well(rules, base)
        lacking(one, other)
        is_settled(rules, base)
        is_stable(rules, base, store)
        stable(rules, base, most=6)
        choices(many)
        turns(rules, base)
    """,
    "sessions": """
        class Session(engine=None): engine, bounds, watches, hold, log
        Session.say(line)
        Session.do(word, rest)
        Session.change(word, rest)
        Session.one_change(word, rule)
        Session.hold_deed(word, rest)
        Session.keep()
        Session.answer(rest)
        Session.why(rest)
        Session.save()
        why_lines(one, blanks)
        first_word(line)
        told_row(row)
        told_rows(rows)
        from_log(text)
        from_save(text)
        rules_told(session)
    """,
}


def lines_of(module):
    return [line.strip() for line in LISTED[module].strip().split("\n")]


def arguments_of(thing, skip):
    parameters = list(inspect.signature(thing).parameters.values())[skip:]
    return f"({', '.join(str(parameter) for parameter in parameters)})"


def samples():
    """Return what is handed in to make one of each class, to look at its fields."""
    return {
        "Sign": ("word", "a", 1, 1), "Cutter": ("a",), "Term": ("X",), "Literal": ("pos", "p", ()),
        "Rule": ("p", (), ()), "Clause": ("ask", None, ()), "Reader": ((),), "Places": (), "Relation": (),
        "Before": (None, (), ()), "Store": (), "Changes": (), "Plan": (None, (), ()), "Views": (None,), "Group": (),
        "Ledger": (None,), "Count": ("p", ()), "Redo": (("p",), ()), "Engine": (), "Ground": ("p", (), None, {}, []),
        "Prices": (), "Question": ((),), "Magic": ((), "p", ()), "Bounds": (), "Watch": ("?- p(X).", Engine()),
        "Watches": (), "Hold": (None, None, None), "Block": (0, None, ()), "Log": (), "Version": (0, (), ()),
        "Forks": (), "Shard": ((),), "Net": ((), 1), "Session": (),
    }


class InterfaceTest(unittest.TestCase):
    def test_all_that_is_listed(self):
        for module in LISTED:
            found = importlib.import_module(f"deducehall.{module}")
            for line in lines_of(module):
                with self.subTest(module=module, line=line):
                    self.stands(found, line)

    def stands(self, module, line):
        if line.startswith("class "):
            self.stands_as_class(module, line[len("class "):])
            return
        place, bracket, arguments = line.partition("(")
        owner, point, name = place.rpartition(".")
        held = vars(getattr(module, owner)) if point else vars(module)
        self.assertIn(name, held)
        self.assertTrue(inspect.isfunction(held[name]))
        self.assertEqual(held[name].__module__, module.__name__)
        self.assertEqual(arguments_of(held[name], 1 if point else 0), bracket + arguments)

    def stands_as_class(self, module, line):
        head, _, fields = line.partition(": ")
        name, bracket, arguments = head.partition("(")
        found = getattr(module, name)
        self.assertTrue(inspect.isclass(found))
        self.assertEqual(found.__module__, module.__name__)
        if bracket:
            self.assertEqual(arguments_of(found.__init__, 1), bracket + arguments)
            made = found(*samples()[name])
            for field in fields.split(", "):
                self.assertIn(field, vars(made))


if __name__ == "__main__":
    unittest.main()
