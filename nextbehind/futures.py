"""The futures of classes: in which orders they can stand in classes that are defined later."""

from nextbehind.errors import BadFuture, BadIndex, TooMany
from nextbehind.merging import merged
from nextbehind.names import are_different_names
from nextbehind.orders import aheads_of, each_order, many_behind, order_at, place_of
from nextbehind.params import check_classes, check_some_classes, is_index

_MOST_CLASSES = 10


def closure(world, *names):
    """Return the classes of the names and all their ancestors, in the order of definition."""
    check_some_classes(world, names)
    lines = world.linearizations
    members = {member: True for name in names for member in lines[name]}
    return tuple([name for name in lines if name in members])


def is_future(world, thing):
    """Return True if a value is a future of the world."""
    if not are_different_names(thing):
        return False
    lines = world.linearizations
    places = {name: at for at, name in enumerate(thing)}
    return all([name in lines and _is_kept(lines[name], places) for name in thing])


def futures(world, *names):
    """Yield all futures of the names, in lexicographic order."""
    members, aheads = members_and_aheads(world, names)
    yield from each_order(members, aheads)


def count(world, *names):
    """Return the number of futures of the names."""
    _, aheads = members_and_aheads(world, names)
    return many_behind(aheads)[0]


def nth(world, index, *names):
    """Return the future of the names at an index in lexicographic order."""
    members, aheads = members_and_aheads(world, names)
    if not is_index(index, many_behind(aheads)[0]):
        raise BadIndex("this is not the index of a future")
    return order_at(members, aheads, index)


def place(world, future, *names):
    """Return the index of a future of the names in lexicographic order."""
    if not is_future(world, future):
        raise BadFuture("this is not a future of the world")
    members, aheads = members_and_aheads(world, names)
    if set(future) != set(members):
        raise BadFuture("this is not a future of these names")
    return place_of(members, aheads, future)


def base_orders(world, *names):
    """Yield each order of the names that can be the bases of a class, with what follows this class."""
    check_classes(world, names)
    if len(names) > world.MAX_BASES:
        raise TooMany(world.MAX_BASES)
    lines = world.linearizations
    bases = tuple([name for name in lines if name in names])
    aheads = aheads_of(bases, [lines[name] for name in bases])
    for order in each_order(bases, aheads):
        rows = [lines[name] for name in order]
        yield (order, merged(*rows, order))


def members_and_aheads(world, names):
    """Return the closure of the names, and for each of its classes those that must stand ahead of it."""
    members = closure(world, *names)
    if len(members) > _MOST_CLASSES:
        raise TooMany(_MOST_CLASSES)
    lines = world.linearizations
    return members, aheads_of(members, [lines[name] for name in names])


def _is_kept(line, places):
    """Return True if all classes of a linearization have a place, in the same order."""
    found = [places[name] for name in line if name in places]
    return len(found) == len(line) and found == sorted(found)
