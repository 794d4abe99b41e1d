"""The checks of parameters, and the errors that they raise."""

from nextbehind.errors import BadName, BadNames, NoClass
from nextbehind.names import are_different_names, is_name


def is_index(thing, many):
    """Return True if a value is the index of one of so many items: an integer, counted from 0."""
    return isinstance(thing, int) and not isinstance(thing, bool) and 0 <= thing < many


def check_name(thing):
    """Raise BadName unless a value is a name."""
    if not is_name(thing):
        raise BadName("this is not a string of 1 to 8 lowercase letters a to z")


def check_class(world, name):
    """Raise an error unless a value is the name of a class."""
    check_name(name)
    if name not in world:
        raise NoClass(name)


def check_classes(world, names):
    """Raise an error unless the names are those of different classes. There may be none."""
    for name in names:
        check_name(name)
    if not are_different_names(names):
        raise BadNames("these names are not different")
    for name in names:
        check_class(world, name)


def check_some_classes(world, names):
    """Raise an error unless the names are those of different classes, at least one."""
    if not names:
        raise BadNames("there are no names")
    check_classes(world, names)
