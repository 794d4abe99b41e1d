"""What the tests of worlds share: worlds, a look at all of a world, and a check of refusals."""

import itertools
import random
import unittest

from nextbehind.merging import merged
from nextbehind.world import World

LETTERS = "abcdefghijklmnopqrstuvwxyz"
METHOD = ((), ("hi",), (), ("bye",))
STOPPER = (("o",), ("hi",), None, ())


def world_of(*lines):
    """Return a world from lines such as "d b c": a class and its bases."""
    world = World()
    for line in lines:
        world.define(*line.split())
    return world


def free_world(many):
    """Return a world of classes without bases."""
    return world_of(*LETTERS[:many])


def diamond():
    return world_of("a", "b a", "c a", "d b c")


def example_world():
    """The world of most examples of the interface."""
    return world_of("a", "b a", "c a")


def method_world():
    """The other world of the examples."""
    world = World()
    world.define("a", m=((), ("hi",), (), ("bye",)))
    world.define("b", "a", m=(("o",), ("yes",), (), ()))
    return world


def torn_world():
    """A world in which d and e cannot be joined."""
    return world_of("a", "b", "c", "d a b", "e b a", "f c d")


def wide_world():
    """A world of which some classes have more than ten classes in their closure, and some have ten."""
    return world_of(*LETTERS[:9], "j a b c d e", "k e f g h i", "l j k", "m j", "n f g h")


def some_worlds(seed, many, classes):
    """Return worlds with as many classes, whose bases are taken by chance where they can be merged."""
    source = random.Random(seed)
    return [_some_world(source, classes) for _ in range(many)]


def _some_world(source, classes):
    world = World()
    names = source.sample(LETTERS, classes)
    for at, name in enumerate(names):
        bases = source.sample(names[:at], source.randint(0, min(3, at)))
        methods = {key: METHOD for key in source.sample(["m", "talk", "walk"], source.randint(0, 2))}
        try:
            world.define(name, *bases, **methods)
        except ArithmeticError:
            world.define(name, **methods)
    return world


def called_worlds(seed, many, classes):
    """Return worlds as above with methods under "m" that take and add options, some of which are stoppers."""
    source = random.Random(seed)
    return [_called_world(source, classes) for _ in range(many)]


def _called_world(source, classes):
    world = World()
    names = source.sample(LETTERS, classes)
    for at, name in enumerate(names):
        bases = source.sample(names[:at], source.choice([0, 1, 2, 2])) if at > 2 else ()
        methods = {"m": _some_method(source)} if source.random() < 0.7 else {}
        try:
            world.define(name, *bases, **methods)
        except ArithmeticError:
            world.define(name, **methods)
    return world


def _some_method(source):
    takes, before, passes, after = [
        tuple(source.sample(row, source.randint(0, 2))) for row in ("opq", ["hi", "yes", "no"], "opq", ["bye", "no"])
    ]
    return (takes, before, None, ()) if source.random() < 0.3 else (takes, before, passes, after)


def picture(world):
    """Return all that a world shows, so that two times can be compared."""
    rows = [(name, world[name].bases, world[name].linearization, list(world[name].methods.items()))
            for name in world.names]
    return (rows, len(world), list(world.linearizations.items()), str(world))


def subsets(items, most):
    """Return all tuples of different items, of 1 up to so many."""
    return [some for many in range(1, most + 1) for some in itertools.permutations(items, many)]


def possible(rows):
    """Return True if rows can be merged."""
    try:
        merged(*rows)
    except ArithmeticError:
        return False
    return True


class WorldCase(unittest.TestCase):
    def assert_raises_fields(self, kind, fields, function, *values, **more):
        """Check the very class of an error and its fields; None for fields leaves them open."""
        with self.assertRaises(kind) as caught:
            function(*values, **more)
        self.assertIs(type(caught.exception), kind)
        if fields is not None:
            self.assertEqual(tuple(vars(caught.exception).values()), fields)
        return caught.exception

    def assert_refused(self, world, kind, fields, function, *values, **more):
        """Check an error as above, and that the world stays as it is."""
        ahead = picture(world)
        error = self.assert_raises_fields(kind, fields, function, *values, **more)
        self.assertEqual(picture(world), ahead)
        return error

    def assert_tuple(self, found, expected):
        """Check that a value is a tuple, not only equal to one."""
        self.assertIs(type(found), tuple)
        self.assertEqual(found, expected)
