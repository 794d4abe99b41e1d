"""The errors of the package: four bases, which are never raised, and one class for each kind of failure."""


class WorldError(ValueError):
    """The base of the errors about values that are not as they must be."""


class LimitError(ArithmeticError):
    """The base of the errors about what a world has no room for."""


class MissingError(LookupError):
    """The base of the errors about classes and methods that are not there."""


class CallError(RuntimeError):
    """The base of the refusals of calls."""


class BadName(WorldError):
    """A value is not a name."""

    def __init__(self, reason):
        self.reason = reason


class BadBases(WorldError):
    """A value is not the bases of a class."""

    def __init__(self, reason):
        self.reason = reason


class BadMethod(WorldError):
    """The value under a name, or under no name (None), is not a method."""

    def __init__(self, name):
        self.name = name


class BadTuple(WorldError):
    """The value at an index, or at no index (None), is not a tuple of the right kind."""

    def __init__(self, index):
        self.index = index


class BadNames(WorldError):
    """There are no names, or they are not different."""

    def __init__(self, reason):
        self.reason = reason


class BadFuture(WorldError):
    """A value is not a future."""

    def __init__(self, reason):
        self.reason = reason


class BadOptions(WorldError):
    """A value is not options that are different names."""

    def __init__(self, reason):
        self.reason = reason


class BadIndex(WorldError):
    """A value is not the index of a future."""

    def __init__(self, reason):
        self.reason = reason


class BadSteps(WorldError):
    """The steps of two chains do not fit together."""

    def __init__(self, reason):
        self.reason = reason


class BadChange(WorldError):
    """The item at an index is not a change."""

    def __init__(self, index):
        self.index = index


class BadText(WorldError):
    """A line, counted from 1, is not valid; it is 0 where there is no text at all."""

    def __init__(self, line):
        self.line = line


class TooMany(LimitError):
    """There are more than the limit."""

    def __init__(self, limit):
        self.limit = limit


class Clash(LimitError):
    """Some tuples cannot be merged: the steps tell why. The name is that of the class, or None."""

    def __init__(self, name, tuples, steps):
        self.name = name
        self.tuples = tuples
        self.steps = steps


class Taken(LimitError):
    """There is a class of this name already."""

    def __init__(self, name):
        self.name = name


class InUse(LimitError):
    """The user is a class that has the named class as a base."""

    def __init__(self, name, user):
        self.name = name
        self.user = user


class NoClass(MissingError):
    """There is no class of this name."""

    def __init__(self, name):
        self.name = name


class NoMethod(MissingError):
    """The named class, or every class (None), lacks the method."""

    def __init__(self, name, method):
        self.name = name
        self.method = method


class Wanted(CallError):
    """The method of the named class takes an option that is missing."""

    def __init__(self, name, option):
        self.name = name
        self.option = option


class Twice(CallError):
    """The method of the named class adds an option that is there already."""

    def __init__(self, name, option):
        self.name = name
        self.option = option


class Unasked(CallError):
    """Options are left that no method took."""

    def __init__(self, options):
        self.options = options
