"""Methods: what a method takes, says, and passes on to the next class."""

from nextbehind.errors import BadMethod
from nextbehind.names import are_names, is_row

_PARTS = 4
_MOST_WORDS = 4


def is_method(thing):
    """Return True if a value is a method: a tuple (takes, before, passes, after)."""
    if not isinstance(thing, tuple) or len(thing) != _PARTS:
        return False
    takes, before, passes, after = thing
    if not is_row(takes) or not _are_words(before) or not _are_words(after):
        return False
    if passes is None:
        return after == ()
    return is_row(passes)


def is_stopper(method):
    """Return True if a method does not pass on. Raise BadMethod if it is not a method."""
    if not is_method(method):
        raise BadMethod(None)
    return method[2] is None


def _are_words(thing):
    return are_names(thing) and len(thing) <= _MOST_WORDS
