"""Points 9 to 14 by their words: searches through all that there is, for small worlds."""

import itertools

from nextbehind.answers import Always, Can, Cannot, Chain, Ring, Stopped, Through
from nextbehind.errors import NoMethod, Twice, Unasked, Wanted


def is_future_by_the_words(world, names):
    """Whether a tuple of different classes is a future as point 9 tells it."""
    for name in names:
        line = world[name].linearization
        if tuple(other for other in names if other in line) != line:
            return False
    return True


def closure_by_the_words(world, names):
    found = set(names)
    while True:
        more = found | {base for name in found for base in world[name].bases}
        if more == found:
            return tuple(name for name in world.names if name in found)
        found = more


def futures_by_the_words(world, names):
    """All futures of the names: permutations come in lexicographic order here."""
    members = closure_by_the_words(world, names)
    return [order for order in itertools.permutations(members) if is_future_by_the_words(world, order)]


def all_futures(world):
    """All futures of a world."""
    orders = [order for many in range(len(world) + 1) for order in itertools.permutations(world.names, many)]
    return [order for order in orders if is_future_by_the_words(world, order)]


def steps_by_the_words(world, names):
    return [(x, y, c) for c in names for x, y in itertools.combinations(world[c].linearization, 2)]


def chains_by_the_words(world, names, most):
    """Return all chains for the names of up to so many steps, those with fewer steps first."""
    steps = steps_by_the_words(world, names)
    level = [(step,) for step in steps]
    found = []
    for _ in range(most):
        found.extend(level)
        level = [(*chain, step) for chain in level for step in steps if chain[-1][1] == step[0]]
    return found


def stoppers_by_the_words(world, method):
    return [name for name in world.names if method in world[name].methods and world[name].methods[method][2] is None]


def passed_by(chain):
    """The classes with which steps other than the last one end."""
    return [step[1] for step in chain[:-1]]


class Words:
    """What points 12 and 13 allow for a world as it is when this object is made."""

    def __init__(self, world):
        self.world = world
        self.futures = set(all_futures(world))
        self.found = {}
        self.steps = {}

    def can_be_joined(self, names):
        key = frozenset(names)
        if key not in self.found:
            self.found[key] = any(key <= set(future) for future in self.futures)
        return self.found[key]

    def is_chain(self, names, thing):
        key = frozenset(names)
        if key not in self.steps:
            self.steps[key] = steps_by_the_words(self.world, key)
        if type(thing) is not tuple or not thing:
            return False
        if not all(type(step) is tuple and step in self.steps[key] for step in thing):
            return False
        return all(one[1] == other[0] for one, other in zip(thing, thing[1:]))

    def is_ring_for(self, names, reason):
        return type(reason) is Ring and self.is_chain(names, reason.steps) and reason.steps[0][0] == reason.steps[-1][1]

    def leads(self, names, reason, start, end):
        return self.is_chain(names, reason.steps) and (reason.steps[0][0], reason.steps[-1][1]) == (start, end)

    def is_chain_for(self, names, reason, start, end):
        return type(reason) is Chain and self.leads(names, reason, start, end)

    def is_future(self, thing):
        return type(thing) is tuple and all(type(name) is str for name in thing) and thing in self.futures

    def counts(self, name, method):
        return method is None or method in self.world[name].methods

    def allows_join(self, thing, *names):
        if not self.can_be_joined(names):
            return type(thing) is Cannot and self.is_ring_for(names, thing.reason)
        return type(thing) is Can and self.is_future(thing.future) and set(names) <= set(thing.future)

    def allows_ahead(self, thing, one, other):
        names = (one, other)
        if not self.can_be_joined(names):
            return self.allows_join(thing, *names)
        if type(thing) is Can:
            return self.is_future(thing.future) and [name for name in thing.future if name in names] == [one, other]
        return type(thing) is Cannot and self.is_chain_for(names, thing.reason, other, one)

    def allows_behind(self, thing, one, other, method=None):
        names = (one, other)
        if type(thing) is Can and self.can_be_joined(names):
            if not self.is_future(thing.future):
                return False
            counting = [name for name in thing.future if self.counts(name, method)]
            return (one, other) in list(zip(counting, counting[1:]))
        if type(thing) is not Cannot or type(thing.reason) is not Through:
            return self.allows_ahead(thing, one, other)
        passed = [name for name in self.world.names if self.counts(name, method) and name not in names]
        if not self.can_be_joined(names) or thing.reason.name not in passed:
            return False
        return self.leads(names, thing.reason, one, other) and thing.reason.name in passed_by(thing.reason.steps)

    def allows_always(self, thing, name, method, *others):
        names = (name, *others)
        if not self.can_be_joined(names):
            return self.allows_join(thing, *names)
        stoppers = [stopper for stopper in stoppers_by_the_words(self.world, method) if stopper != name]
        if type(thing) is Stopped:
            if thing.name not in stoppers or not self.is_future(thing.future) or not set(names) <= set(thing.future):
                return False
            return [other for other in thing.future if other in (name, thing.name)] == [thing.name, name]
        if type(thing) is not Always or type(thing.reasons) is not tuple:
            return False
        if not all(type(pair) is tuple and len(pair) == 2 for pair in thing.reasons):
            return False
        if [stopper for stopper, _ in thing.reasons] != stoppers:
            return False
        return all(self.tells_why(names, stopper, reason) for stopper, reason in thing.reasons)

    def tells_why(self, names, stopper, reason):
        """Whether a reason tells that the stopper is never ahead of the first of the names."""
        members = {*names, stopper}
        if not self.can_be_joined(members):
            return self.is_ring_for(members, reason)
        return self.is_chain_for(members, reason, names[0], stopper)

    def allows_sometimes(self, thing, name, method, *others):
        names = (name, *others)
        if not self.can_be_joined(names):
            return self.allows_join(thing, *names)
        stoppers = [stopper for stopper in stoppers_by_the_words(self.world, method) if stopper != name]
        if type(thing) is Can:
            if not self.is_future(thing.future) or not set(names) <= set(thing.future):
                return False
            return not set(thing.future[:thing.future.index(name)]) & set(stoppers)
        if type(thing) is not Cannot:
            return False
        return any(self.is_chain_for(names, thing.reason, stopper, name) for stopper in stoppers)


def least(chains, fits):
    """Return how many steps the first chain has that fits. The chains with fewer steps must come first."""
    return next((len(chain) for chain in chains if fits(chain)), None)


def end_by_the_words(world, future, method, options):
    """Return the words of a call as point 14 tells it, or the class and the fields of its error."""
    names = [name for name in future if method in world[name].methods]
    if not names:
        return (NoMethod, (None, method))
    return run_by_the_words(world, names, method, frozenset(options))


def run_by_the_words(world, names, method, left):
    """Run the first of the names, and what comes behind it."""
    name, *rest = names
    takes, before, passes, after = world[name].methods[method]
    for option in takes:
        if option not in left:
            return (Wanted, (name, option))
        left = left - {option}
    if passes is None:
        return (Unasked, (tuple(sorted(left)),)) if left else [*before]
    for option in passes:
        if option in left:
            return (Twice, (name, option))
        left = left | {option}
    if rest:
        inner = run_by_the_words(world, rest, method, left)
    else:
        inner = (Unasked, (tuple(sorted(left)),)) if left else []
    return [*before, *inner, *after] if isinstance(inner, list) else inner
