"""Calls of methods on futures, and the first future on which a call ends in a given way."""

from nextbehind.errors import BadFuture, NoMethod
from nextbehind.futures import is_future, members_and_aheads
from nextbehind.methods import methods_under
from nextbehind.params import check_name, check_options
from nextbehind.runs import first_order, words_of


def call(world, future, method, *options):
    """Return the list of the words of a call on a future."""
    return _called(world, future, method, options)


def call_class(world, name, method, *options):
    """Return the list of the words of a call on the linearization of a class."""
    return _called(world, world.member(name).linearization, method, options)


def first_refused(world, method, options, *names):
    """Return the first future of the names on which the call is refused, or None."""
    return _first(world, method, options, names, lambda words: words is None)


def first_said(world, word, method, options, *names):
    """Return the first future of the names on which the call is not refused and says the word, or None."""
    check_name(word)
    return _first(world, method, options, names, lambda words: words is not None and word in words)


def first_unsaid(world, word, method, options, *names):
    """Return the first future of the names on which the call is not refused and leaves the word unsaid, or None."""
    check_name(word)
    return _first(world, method, options, names, lambda words: words is not None and word not in words)


class Caller:
    """Calls of one method, which are counted if they return words."""

    def __init__(self, world, method):
        check_name(method)
        self._world = world
        self._method = method
        self._many = 0

    def __call__(self, future, options=()):
        words = _called(self._world, future, self._method, options)
        self._many += 1
        return words

    def on(self, name, *options):
        """Return the list of the words of a call on the linearization of a class."""
        words = call_class(self._world, name, self._method, *options)
        self._many += 1
        return words

    @property
    def many(self):
        """The number of the calls that returned words."""
        return self._many


def _called(world, future, method, options):
    """Check the parameters behind the world and return the words of a call."""
    if not is_future(world, future):
        raise BadFuture("this is not a future of the world")
    check_name(method)
    check_options(options)
    methods = methods_under(world, method)
    _check_some(methods, future, method)
    return words_of(future, methods, options)


def _first(world, method, options, names, fits):
    """Check the parameters from the method on and return the first future with an end that fits, or None."""
    check_name(method)
    check_options(options)
    members, aheads = members_and_aheads(world, names)
    methods = methods_under(world, method)
    _check_some(methods, members, method)
    return first_order(members, aheads, methods, options, fits)


def _check_some(methods, names, method):
    """Raise NoMethod if none of the names has the method."""
    if not any([name in methods for name in names]):
        raise NoMethod(None, method)
