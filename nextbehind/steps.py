"""Steps for some classes, and the rings and chains that are made of them.

All functions take the linearizations of a world, a dict from its classes, and the names of some of them.
"""

from nextbehind.errors import Clash
from nextbehind.merging import merged
from nextbehind.names import are_names

_STEP_PARTS = 3


def ring_steps(lines, names):
    """Return the fewest steps of a ring for the names, or () if they can be joined."""
    rows = [lines[name] for name in names]
    try:
        merged(*rows)
    except Clash as clash:
        # A clash of the linearizations is a ring that tells them by their indexes.
        steps = clash.steps
        return tuple([(one, other, names[at]) for one, other, at in steps])
    return ()


def fewest_steps(lines, names, starts, end):
    """Return the fewest steps for the names from one of the starts to another class, or () if there are none."""
    chains = {start: () for start in starts}
    level = list(starts)
    while level and end not in chains:
        fresh = []
        for one in level:
            for step in _steps_from(lines, names, one):
                other = step[1]
                if other not in chains:
                    chains[other] = (*chains[one], step)
                    fresh.append(other)
        level = fresh
    return chains.get(end, ())


def is_chain(lines, names, thing):
    """Return True if a value is a chain for the names, from any class to any class."""
    if not isinstance(thing, tuple) or not thing:
        return False
    if not all([_is_step(lines, names, step) for step in thing]):
        return False
    return all([one[1] == other[0] for one, other in zip(thing, thing[1:])])


def future_of(lines, names, pairs):
    """Return a future of the names in which the first of each pair is ahead of the second.

    The names and the pairs must leave room for one. All classes of the pairs are in the closure of the names.
    """
    # The merge takes the first name that it can: so a pair that comes first stands as close as it can.
    rows = pairs + [lines[name] for name in names]
    return merged(*rows)


def _steps_from(lines, names, one):
    """Return all steps for the names that begin with a class."""
    steps = []
    for name in names:
        line = lines[name]
        if one in line:
            steps.extend([(one, other, name) for other in line[line.index(one) + 1:]])
    return steps


def _is_step(lines, names, thing):
    # Only names are compared: other values may have an equality of their own.
    if not are_names(thing) or len(thing) != _STEP_PARTS:
        return False
    one, other, name = thing
    if name not in names:
        return False
    line = lines[name]
    return one in line and other in line and line.index(one) < line.index(other)
