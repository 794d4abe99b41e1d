"""Larger worlds, in which a future is the linearization of a class."""

from nextbehind.errors import BadFuture, TooMany
from nextbehind.futures import is_future

_LETTERS = "abcdefghijklmnopqrstuvwxyz"


def grown(world, future):
    """Return a larger world, and the name of a further class in it behind which the future stands.

    Each class of the future gets a further class, which has it and the next further class as bases.
    From the last one on, each of them is followed by the classes of the future from its own one on.
    """
    if not is_future(world, future):
        raise BadFuture("this is not a future of the world")
    further = max(1, len(future))
    if len(world) + further > world.MAX_CLASSES:
        raise TooMany(world.MAX_CLASSES)
    # There are more letters than a world can have classes: so enough of them are left.
    fresh = [letter for letter in _LETTERS if letter not in world][:further]
    later = world.copy()
    classes = future[::-1]
    behind = ()
    for at, name in enumerate(fresh):
        bases = (*classes[at:at + 1], *behind)
        later.define(name, *bases)
        behind = (name,)
    return later, fresh[-1]
