"""Worlds of classes, the members that show a class, and trials that are taken back."""

from nextbehind.changes import is_change
from nextbehind.errors import BadBases, BadChange, BadMethod, Clash, InUse, NoClass, Taken, TooMany
from nextbehind.merging import merged
from nextbehind.methods import is_method
from nextbehind.names import are_different_names, is_name
from nextbehind.params import check_class, check_name
from nextbehind.texts import read_into, world_lines

_BARRED = ("name", "self")

# What a world keeps of a class is a tuple with these indexes.
_BASES = 0
_METHODS = 1
_LINE = 2


class World:
    """Classes in the order of their definition."""

    MAX_CLASSES = 24
    MAX_BASES = 8
    MAX_METHODS = 3

    def __init__(self):
        # This dict is never changed, only replaced: so a copy or a trial keeps it as it is.
        self._classes = {}

    @staticmethod
    def empty():
        """Return a new world without classes."""
        return World()

    @classmethod
    def read(cls, text):
        """Return the world of a text. Raise BadText with the number of its first wrong line."""
        world = cls()
        read_into(world, text)
        return world

    def define(self, name, *bases, **methods):
        """Define a class behind all others and return its linearization."""
        return self._define(name, bases, methods)

    def remove(self, name):
        """Remove a class that no other has as a base."""
        check_class(self, name)
        for user in self._classes:
            if name in self._classes[user][_BASES]:
                raise InUse(name, user)
        self._classes = {label: self._classes[label] for label in self._classes if label != name}

    def member(self, name):
        """Return an object that shows a class as it is at any later time."""
        check_class(self, name)
        return Member(self, name)

    def perform(self, *changes):
        """Perform changes, all or none, and return the list of their results."""
        for index, change in enumerate(changes):
            if not is_change(change):
                raise BadChange(index)
        later = self.copy()
        results = []
        for change in changes:
            results.append(later._carry_out(change))
        self._classes = later._classes
        return results

    def rehearse(self, *changes):
        """Return or raise the same as perform, without a change."""
        return self.copy().perform(*changes)

    def trial(self):
        """Return an object for a with statement, behind which the world is as it was ahead of it."""
        return Trial(self)

    @property
    def names(self):
        """All classes, in the order of their definition."""
        return tuple(self._classes)

    @property
    def linearizations(self):
        """A new dict from the classes to their linearizations, in the order of their definition."""
        return {name: self._classes[name][_LINE] for name in self._classes}

    def copy(self):
        """Return an equal world that changes on its own."""
        twin = World()
        twin._classes = self._classes
        return twin

    def __len__(self):
        return len(self._classes)

    def __contains__(self, x):
        return is_name(x) and x in self._classes

    def __getitem__(self, at):
        return self.member(at)

    def __iter__(self):
        raise TypeError("a world is not iterated over, but its names are")

    def __eq__(self, other):
        return isinstance(other, World) and list(self._classes.items()) == list(other._classes.items())

    def __str__(self):
        return "\n".join(world_lines(self))

    def _define(self, name, bases, methods):
        check_name(name)
        if name in self._classes:
            raise Taken(name)
        self._check_bases(bases)
        self._check_methods(methods)
        if len(self._classes) >= self.MAX_CLASSES:
            raise TooMany(self.MAX_CLASSES)
        line = _linearized(self._classes, name, bases)
        kept = tuple([(key, methods[key]) for key in sorted(methods)])
        self._classes = {**self._classes, name: (bases, kept, line)}
        return line

    def _rebase(self, name, bases):
        """Assign the bases of a class, and make the linearizations of all classes anew."""
        _found(self._classes, name)
        self._check_bases(bases)
        earlier = self.names[:self.names.index(name)]
        if not all([base in earlier for base in bases]):
            raise BadBases("a base is not defined earlier than the class")
        later = {}
        for label, (old, methods, _) in self._classes.items():
            new = bases if label == name else old
            later[label] = (new, methods, _linearized(later, label, new))
        self._classes = later

    def _check_bases(self, bases):
        if not are_different_names(bases) or len(bases) > self.MAX_BASES:
            raise BadBases("these are not different names, or too many")
        for base in bases:
            if base not in self._classes:
                raise NoClass(base)

    def _check_methods(self, methods):
        for key in sorted(methods):
            if not is_name(key) or key in _BARRED or not is_method(methods[key]):
                raise BadMethod(key)
        if len(methods) > self.MAX_METHODS:
            raise TooMany(self.MAX_METHODS)

    def _carry_out(self, change):
        """Make one change and return its result."""
        word, name, *rest = change
        if word == "define":
            return self._define(name, *rest)
        if word == "remove":
            return self.remove(name)
        changed = self.member(name)
        changed.bases = rest[0]
        return changed.linearization


class Member:
    """A class of a world, shown as it is when it is asked."""

    def __init__(self, world, label):
        self._world = world
        self._label = label

    @property
    def label(self):
        """The name of the class."""
        return self._label

    @property
    def bases(self):
        """The bases of the class. They can be assigned."""
        return _found(self._world._classes, self._label)[_BASES]

    @bases.setter
    def bases(self, value):
        self._world._rebase(self._label, value)

    @property
    def linearization(self):
        """The order in which the class and its ancestors are searched."""
        return _found(self._world._classes, self._label)[_LINE]

    @property
    def methods(self):
        """A new dict of the methods that are defined in the class, in alphabetical order."""
        return dict(_found(self._world._classes, self._label)[_METHODS])


class Trial:
    """For a with statement: what happens to the world in it is taken back."""

    def __init__(self, world):
        self._world = world
        self._kept = None

    def __enter__(self):
        self._kept = self._world._classes
        return self._world

    def __exit__(self, kind, value, trace):
        world = self._world
        world._classes = self._kept


def _found(classes, name):
    """Return what is kept of a class. Raise NoClass if it is missing."""
    if name not in classes:
        raise NoClass(name)
    return classes[name]


def _linearized(classes, name, bases):
    """Return the linearization of a class with these bases. Raise Clash if there is none."""
    lines = [classes[base][_LINE] for base in bases]
    try:
        return (name, *merged(*lines, bases))
    except Clash as clash:
        raise Clash(name, clash.tuples, clash.steps) from None
