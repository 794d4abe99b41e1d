"""The orders of some names that keep the order of given rows of names.

Sets of names are given as integers: the bit at a position stands for the name at this position.
"""

from nextbehind.errors import Clash
from nextbehind.merging import merged


def aheads_of(names, rows):
    """Return for each of the names the set of those that are ahead of it in all orders that keep the rows.

    The rows may have other names, too. Where no order keeps them, each set contains all names, so
    that none of them can come first.
    """
    bits = {name: 1 << at for at, name in enumerate(names)}
    try:
        order = merged(*rows)
    except Clash:
        return [(1 << len(names)) - 1 for _ in names]
    found = {name: 0 for name in order}
    nexts = {name: [] for name in order}
    for row in rows:
        for one, other in zip(row, row[1:]):
            nexts[one].append(other)
    # In this order the set of a name is complete before it is handed on.
    for name in order:
        for other in nexts[name]:
            found[other] |= found[name] | bits.get(name, 0)
    return [found[name] for name in names]


def each_order(names, aheads):
    """Yield all orders, in lexicographic order by the order of the names."""
    waiting = [((), 0)]
    while waiting:
        order, done = waiting.pop()
        if len(order) == len(names):
            yield order
        # The order that is wanted next is the one that is put there last.
        for at in next_places(aheads, done)[::-1]:
            waiting.append(((*order, names[at]), done | (1 << at)))


def next_places(aheads, done):
    """Return the positions of the names that can come next, behind those of a set."""
    places = range(len(aheads))
    return [at for at in places if not done & (1 << at) and aheads[at] & done == aheads[at]]


def many_behind(aheads):
    """Return, for each set of names that can come first, in how many orders the others can follow it."""
    full = (1 << len(aheads)) - 1
    many = [0] * full + [1]
    for done in reversed(range(full)):
        many[done] = sum([many[done | (1 << at)] for at in next_places(aheads, done)])
    return many


def order_at(names, aheads, index):
    """Return the order at an index, which must be less than their number."""
    many = many_behind(aheads)
    order = ()
    done = 0
    while len(order) < len(names):
        for at in next_places(aheads, done):
            if index < many[done | (1 << at)]:
                break
            index -= many[done | (1 << at)]
        order = (*order, names[at])
        done |= 1 << at
    return order


def place_of(names, aheads, order):
    """Return the index of an order that is one of them."""
    many = many_behind(aheads)
    index = 0
    done = 0
    for name in order:
        place = names.index(name)
        index += sum([many[done | (1 << at)] for at in next_places(aheads, done) if at < place])
        done |= 1 << place
    return index
