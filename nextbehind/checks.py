"""Checks of answers: whether a value is one that a question allows, for the world as it is now."""

from nextbehind.answers import Always, Can, Cannot, Chain, Ring, Stopped, Through
from nextbehind.futures import is_future
from nextbehind.methods import classes_with, other_stoppers
from nextbehind.names import is_name
from nextbehind.params import check_neighbours, check_reached, check_some_classes, check_two_classes
from nextbehind.steps import is_chain, ring_steps

_PAIR_PARTS = 2


def check_join(world, thing, *names):
    """Return True if a value is an answer to join."""
    check_some_classes(world, names)
    if type(thing) is Can:
        return _is_future_with(world, thing.future, names)
    return type(thing) is Cannot and _is_ring(world.linearizations, names, thing.reason)


def check_ahead(world, thing, one, other):
    """Return True if a value is an answer to ahead."""
    check_two_classes(world, one, other)
    if type(thing) is Can:
        return _is_future_with(world, thing.future, (one, other)) and one in _ahead_of(other, thing.future)
    return type(thing) is Cannot and _is_never_ahead(world, thing.reason, one, other)


def check_behind(world, thing, one, other, *, method=None):
    """Return True if a value is an answer to behind."""
    check_neighbours(world, one, other, method)
    counting = classes_with(world, method)
    if type(thing) is Can:
        if not _is_future_with(world, thing.future, (one, other)):
            return False
        return [name for name in _ahead_of(other, thing.future) if name in counting][-1:] == [one]
    if type(thing) is not Cannot:
        return False
    reason = thing.reason
    if type(reason) is Through:
        return _is_through(world, reason, one, other, counting)
    return _is_never_ahead(world, reason, one, other)


def check_always(world, thing, name, method, *others):
    """Return True if a value is an answer to always."""
    check_reached(world, name, method, others)
    names = (name, *others)
    lines = world.linearizations
    stoppers = other_stoppers(world, method, name)
    if type(thing) is Cannot:
        return _is_ring(lines, names, thing.reason)
    if type(thing) is Stopped:
        if not is_name(thing.name) or thing.name not in stoppers:
            return False
        return _is_future_with(world, thing.future, names) and thing.name in _ahead_of(name, thing.future)
    if type(thing) is not Always or ring_steps(lines, names) or not _are_pairs(thing.reasons):
        return False
    if [pair[0] for pair in thing.reasons] != stoppers:
        return False
    return all([_is_reason_behind(lines, (*names, stopper), reason) for stopper, reason in thing.reasons])


def check_sometimes(world, thing, name, method, *others):
    """Return True if a value is an answer to sometimes."""
    check_reached(world, name, method, others)
    names = (name, *others)
    lines = world.linearizations
    stoppers = other_stoppers(world, method, name)
    if type(thing) is Can:
        if not _is_future_with(world, thing.future, names):
            return False
        return not any([stopper in _ahead_of(name, thing.future) for stopper in stoppers])
    if type(thing) is not Cannot:
        return False
    if _is_ring(lines, names, thing.reason):
        return True
    return any([_is_way(lines, names, thing.reason, stopper, name) for stopper in stoppers])


def _is_future_with(world, thing, names):
    return is_future(world, thing) and all([name in thing for name in names])


def _ahead_of(name, future):
    return future[:future.index(name)]


def _is_ring(lines, names, reason):
    """Return True if a reason is a Ring for the names."""
    if type(reason) is not Ring or not is_chain(lines, names, reason.steps):
        return False
    return reason.steps[0][0] == reason.steps[-1][1]


def _is_way(lines, names, reason, start, end):
    """Return True if a reason is a Chain from start to end for names that can be joined."""
    return type(reason) is Chain and _leads(lines, names, reason.steps, start, end)


def _leads(lines, names, steps, start, end):
    """Return True if steps are a chain from start to end for names that can be joined."""
    if not is_chain(lines, names, steps) or ring_steps(lines, names):
        return False
    return steps[0][0] == start and steps[-1][1] == end


def _is_never_ahead(world, reason, one, other):
    """Return True if a reason tells that one is never ahead of other."""
    lines = world.linearizations
    return _is_ring(lines, (one, other), reason) or _is_way(lines, (one, other), reason, other, one)


def _is_through(world, reason, one, other, counting):
    """Return True if a Through leads from one to other and passes a class that counts."""
    name = reason.name
    if not is_name(name) or name not in counting or name in (one, other):
        return False
    if not _leads(world.linearizations, (one, other), reason.steps, one, other):
        return False
    return name in [step[1] for step in reason.steps[:-1]]


def _are_pairs(thing):
    """Return True if a value is a tuple of pairs with a name in front."""
    if not isinstance(thing, tuple):
        return False
    return all([isinstance(pair, tuple) and len(pair) == _PAIR_PARTS and is_name(pair[0]) for pair in thing])


def _is_reason_behind(lines, names, reason):
    """Return True if a reason tells why the last of the names is never ahead of the first one."""
    return _is_ring(lines, names, reason) or _is_way(lines, names, reason, names[0], names[-1])
