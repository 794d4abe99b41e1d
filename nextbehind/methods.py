"""Methods: what a method takes, says, and passes on to the next class."""

from nextbehind.errors import BadMethod
from nextbehind.names import are_names, is_row

_PARTS = 4
_MOST_WORDS = 4


def is_method(thing):
    """Return True if a value is a method: a tuple (takes, before, passes, after)."""
    if not isinstance(thing, tuple) or len(thing) != _PARTS:
        return False
    takes, before, passes, after = thing
    if not is_row(takes) or not _are_words(before) or not _are_words(after):
        return False
    if passes is None:
        return after == ()
    return is_row(passes)


def is_stopper(method):
    """Return True if a method does not pass on. Raise BadMethod if it is not a method."""
    if not is_method(method):
        raise BadMethod(None)
    return method[2] is None


def methods_under(world, key):
    """Return a dict from the classes that define a method of this name to it, in the order of definition."""
    found = {}
    for name in world.names:
        methods = world.member(name).methods
        if key in methods:
            found[name] = methods[key]
    return found


def classes_with(world, key):
    """Return the classes that define a method of this name, or all classes where the name is None."""
    return world.names if key is None else tuple(methods_under(world, key))


def other_stoppers(world, key, name):
    """Return the stoppers of a world for a method, without one class, in the order of definition."""
    methods = methods_under(world, key)
    return [other for other in methods if other != name and is_stopper(methods[other])]


def _are_words(thing):
    return are_names(thing) and len(thing) <= _MOST_WORDS
