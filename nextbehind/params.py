"""The checks of parameters, and the errors that they raise."""

from nextbehind.errors import BadName, BadNames, BadOptions, NoClass, NoMethod
from nextbehind.names import are_different_names, is_name


def is_index(thing, many):
    """Return True if a value is the index of one of so many items: an integer, counted from 0."""
    return isinstance(thing, int) and not isinstance(thing, bool) and 0 <= thing < many


def check_name(thing):
    """Raise BadName unless a value is a name."""
    if not is_name(thing):
        raise BadName("this is not a string of 1 to 8 lowercase letters a to z")


def check_options(thing):
    """Raise BadOptions unless a value is a tuple of different names."""
    if not are_different_names(thing):
        raise BadOptions("this is not a tuple of different names")


def check_class(world, name):
    """Raise an error unless the name is that of a class."""
    check_name(name)
    if name not in world:
        raise NoClass(name)


def check_classes(world, names):
    """Raise an error unless the names are those of different classes. There may be none."""
    for name in names:
        check_name(name)
    if not are_different_names(names):
        raise BadNames("these names are not different")
    for name in names:
        check_class(world, name)


def check_some_classes(world, names):
    """Raise an error unless the names are those of different classes, at least one."""
    if not names:
        raise BadNames("there are no names")
    check_classes(world, names)


def check_two_classes(world, one, other):
    """Raise an error unless both names are those of classes, and different."""
    check_class(world, one)
    check_class(world, other)
    _check_different(one, other)


def check_neighbours(world, one, other, method):
    """Raise an error unless both names are those of different classes that have the method, if there is one."""
    check_class(world, one)
    check_class(world, other)
    if method is not None:
        check_name(method)
    _check_different(one, other)
    if method is not None:
        _check_has(world, one, method)
        _check_has(world, other, method)


def check_reached(world, name, method, others):
    """Raise an error unless all names are those of different classes, and the first one has the method."""
    check_class(world, name)
    check_name(method)
    check_classes(world, (name, *others))
    _check_has(world, name, method)


def _check_different(one, other):
    if one == other:
        raise BadNames("these names are not different")


def _check_has(world, name, method):
    if method not in world.member(name).methods:
        raise NoMethod(name, method)
