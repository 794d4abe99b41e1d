"""Questions about what is possible in classes that are defined later."""

from nextbehind.answers import Always, Can, Cannot, Chain, Ring, Stopped, Through
from nextbehind.methods import classes_with, other_stoppers
from nextbehind.params import check_neighbours, check_reached, check_some_classes, check_two_classes
from nextbehind.steps import fewest_steps, future_of, ring_steps


def join(world, *names):
    """Return Can with a future of the names, or Cannot with a Ring."""
    check_some_classes(world, names)
    lines = world.linearizations
    ring = ring_steps(lines, names)
    if ring:
        return Cannot(Ring(ring))
    return Can(future_of(lines, names, []))


def ahead(world, one, other):
    """Return Can with a future in which one is ahead of other, or Cannot with a Ring or a Chain from other to one."""
    check_two_classes(world, one, other)
    return _closely_ahead(world.linearizations, one, other)


def behind(world, one, other, *, method=None):
    """Return Can with a future in which other is directly behind one, or Cannot with the reason why it never is.

    With a method, only the classes that have it count.
    """
    check_neighbours(world, one, other, method)
    answer = _closely_ahead(world.linearizations, one, other)
    if not answer:
        return answer
    counting = classes_with(world, method)
    future = answer.future
    # Classes stand between the two only where this future is the linearization of one: so they always do.
    for name in future[future.index(one) + 1:future.index(other)]:
        if name in counting:
            return Cannot(Through(((one, name, one), (name, other, one)), name))
    return answer


def always(world, name, method, *others):
    """Return Always if the class is reached in every future with it and the others, or Stopped, or Cannot."""
    check_reached(world, name, method, others)
    lines = world.linearizations
    names = (name, *others)
    ring = ring_steps(lines, names)
    if ring:
        return Cannot(Ring(ring))
    reasons = []
    for stopper in other_stoppers(world, method, name):
        members = names if stopper in names else (*names, stopper)
        reason = _reason_behind(lines, members, name, stopper)
        if reason is None:
            return Stopped(future_of(lines, members, [(stopper, name)]), stopper)
        reasons.append((stopper, reason))
    return Always(tuple(reasons))


def sometimes(world, name, method, *others):
    """Return Can with a future in which the class is reached, or Cannot with a Ring or a Chain from a stopper."""
    check_reached(world, name, method, others)
    lines = world.linearizations
    names = (name, *others)
    ring = ring_steps(lines, names)
    if ring:
        return Cannot(Ring(ring))
    stoppers = other_stoppers(world, method, name)
    chain = fewest_steps(lines, names, stoppers, name)
    if chain:
        return Cannot(Chain(chain))
    members = {member: True for label in names for member in lines[label]}
    return Can(future_of(lines, names, [(name, stopper) for stopper in stoppers if stopper in members]))


def _closely_ahead(lines, one, other):
    """Return the answer whether one can be ahead of other. If so, no class is between that need not be there."""
    names = (one, other)
    ring = ring_steps(lines, names)
    if ring:
        return Cannot(Ring(ring))
    chain = fewest_steps(lines, names, (other,), one)
    if chain:
        return Cannot(Chain(chain))
    return Can(future_of(lines, names, [(one, other)]))


def _reason_behind(lines, names, one, other):
    """Return why other is never ahead of one in a future with the names, or None if it can be."""
    ring = ring_steps(lines, names)
    if ring:
        return Ring(ring)
    chain = fewest_steps(lines, names, (one,), other)
    return Chain(chain) if chain else None
