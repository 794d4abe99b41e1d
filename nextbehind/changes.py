"""The changes that a world can perform."""

_PARTS = {"define": 4, "remove": 2, "rebase": 3}


def is_change(thing):
    """Return True if a value is a change: a tuple with one of the words and as many parts as it asks for."""
    if not isinstance(thing, tuple) or not thing or not isinstance(thing[0], str):
        return False
    if len(thing) != _PARTS.get(thing[0]):
        return False
    # What is refused later, such as a wrong name, is not looked at here.
    word, _, *rest = thing
    return word == "remove" or (isinstance(rest[0], tuple) and (word == "rebase" or _has_words(rest[1])))


def _has_words(thing):
    return isinstance(thing, dict) and all([isinstance(key, str) for key in thing])
