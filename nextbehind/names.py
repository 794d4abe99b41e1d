"""Names, and tuples of different names."""

_LONGEST_NAME = 8
_LONGEST_ROW = 4


def is_name(thing):
    """Return True if a value is a name: a string of 1 to 8 lowercase letters a to z."""
    if not isinstance(thing, str) or not 1 <= len(thing) <= _LONGEST_NAME:
        return False
    return all(["a" <= letter <= "z" for letter in thing])


def are_names(thing):
    """Return True if a value is a tuple of names. It may be empty, and names may repeat."""
    return isinstance(thing, tuple) and all([is_name(item) for item in thing])


def are_different_names(thing):
    """Return True if a value is a tuple of different names, however many."""
    return are_names(thing) and len(set(thing)) == len(thing)


def is_row(thing):
    """Return True if a value is a row of names: a tuple of at most four different names."""
    return are_different_names(thing) and len(thing) <= _LONGEST_ROW
