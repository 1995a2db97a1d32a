"""Layers: what asks what, rings of names that ask each other, and the layers that a not or a sum needs."""

from deducehall.errors import BadLayer, NoSuch
from deducehall.rules import names_of


def links(rules):
    """Return a table of all names, told or asked, to a table of those their rules ask: True where strictly."""
    table = {name: {} for name in names_of(rules)}
    for rule in rules:
        asked = table[rule.name]
        for name in rule.asked("pos"):
            asked[name] = asked.get(name, False) or rule.summed is not None
        for name in rule.asked("neg"):
            asked[name] = True
    return table


def turned_links(table):
    """Return a table of all names, or rings, to a table of those that ask them."""
    turned = {asker: {} for asker in table}
    for asker in table:
        for asked in table[asker]:
            turned[asked][asker] = True
    return turned


def reach(table, starts, barred):
    """Return a table of what some names ask, over others, but for barred ones and what only they ask."""
    found = {}
    left = list(starts)
    while left != []:
        name = left.pop()
        for asked in table.get(name, {}):
            if asked not in found and asked not in barred:
                found[asked] = True
                left.append(asked)
    return found


def reached(table, name):
    """Return the names that a name asks, over others, in order of the letters; itself only over a ring."""
    return tuple(sorted(reach(table, [name], {})))


def asked_first(table):
    """Return all names, what is asked ahead of who asks wherever they don't ask each other."""
    done = {}
    begun = {}
    for start in table:
        left = [start]
        while left != []:
            name = left[-1]
            if name in begun:
                # It is on top again: all that it asks is done.
                done[name] = True
                left.pop()
            else:
                begun[name] = True
                left.extend([asked for asked in table[name] if asked not in begun])
    return list(done)


def rings_by_name(table):
    """Return a table of each name to its ring, in order."""
    turned = turned_links(table)
    ring_of = {}
    for start in reversed(asked_first(table)):
        if start not in ring_of:
            # Whoever asks it from outside its ring has a ring by now: the others that ask it are its ring.
            ring = with_themselves([start], reach(turned, [start], ring_of))
            for name in ring:
                ring_of[name] = ring
    return ring_of


def rings(rules):
    """Return all names in rings of those that ask each other, each ring in order, what is asked ahead of who asks."""
    table = links(rules)
    ring_of = rings_by_name(table)
    waits = {ring: {} for ring in ring_of.values()}
    for name in table:
        for asked in table[name]:
            if ring_of[asked] != ring_of[name]:
                waits[ring_of[name]][ring_of[asked]] = True
    return tuple(first_by_letters(waits))


def first_by_letters(waits):
    """Return rings behind those they wait for, of those that may come next the first by letters."""
    askers = turned_links(waits)
    missing = {ring: len(waits[ring]) for ring in waits}
    free = [ring for ring in waits if missing[ring] == 0]
    order = []
    while free != []:
        ring = min(free)
        free.remove(ring)
        order.append(ring)
        for asker in askers[ring]:
            missing[asker] -= 1
            if missing[asker] == 0:
                free.append(asker)
    return order


def is_ring(rules, ring):
    """Tell whether a ring's names ask themselves or each other."""
    table = links(rules)
    return any([asked in ring for name in ring for asked in table.get(name, {})])


def check_layers(rules):
    """Return a tuple of the rings of rules that can be laid; BadLayer for a strict link or reckoning within a ring."""
    table = links(rules)
    ring_of = rings_by_name(table)
    for name in table:
        for asked in table[name]:
            if table[name][asked] and ring_of[asked] == ring_of[name]:
                raise BadLayer(f"strict in a ring: {name} asks {asked}")
    for rule in rules:
        if rule.reckons() and any([ring_of[asked] == ring_of[rule.name] for asked in rule.asked("pos")]):
            raise BadLayer(f"reckons in a ring: {rule.name}")
    return rings(rules)


def layer_numbers(rules):
    """Return a table of names to their layers from nought on, each the least that its links need; BadLayer."""
    table = links(rules)
    layer_of = {}
    for ring in check_layers(rules):
        least = 0
        for name in ring:
            for asked in table[name]:
                if asked not in ring:
                    least = max(least, layer_of[asked] + (1 if table[name][asked] else 0))
        for name in ring:
            layer_of[name] = least
    return layer_of


def layers(rules):
    """Return the names of each layer in order, the lowest first; BadLayer."""
    layer_of = layer_numbers(rules)
    rows = [[] for _ in range(max(layer_of.values(), default=-1) + 1)]
    for name in sorted(layer_of):
        rows[layer_of[name]].append(name)
    return tuple([tuple(row) for row in rows])


def way(table, start, end):
    """Return a tuple: the shortest way of names from one to another by links, then the first; NoSuch for none."""
    # Ways of one length stand in order: so a name is come upon first by its first way.
    ways = [(start,)]
    met = {}
    while ways != []:
        longer = []
        for names in ways:
            for asked in sorted(table.get(names[-1], {})):
                if asked == end:
                    return names + (asked,)
                if asked not in met:
                    met[asked] = True
                    longer.append(names + (asked,))
        ways = longer
    raise NoSuch(f"no way from {start} to {end}")


def strict_ring(rules):
    """Return a tuple: the shortest ring from a name that links strictly to itself again, then the first; or None."""
    table = links(rules)
    ring_of = rings_by_name(table)
    found = []
    for name in table:
        for asked in table[name]:
            if table[name][asked] and ring_of[asked] == ring_of[name]:
                # The way back has no link where a name asks itself.
                ring = (name, name) if asked == name else (name,) + way(table, asked, name)
                found.append((len(ring), ring))
    return min(found)[1] if found != [] else None


def with_themselves(names, found):
    """Return some names and what was found from them, in order of the letters, each once."""
    whole = dict(found)
    for name in names:
        whole[name] = True
    return tuple(sorted(whole))


def above(rules, names):
    """Return the names that ask any of some names, over others, those themselves too, in order of the letters."""
    return with_themselves(names, reach(turned_links(links(rules)), names, {}))


def below(rules, names):
    """Return the names that some names ask, over others, those themselves too, in order of the letters."""
    return with_themselves(names, reach(links(rules), names, {}))
