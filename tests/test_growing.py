"""Points 9, 17 and the interface: grown, the larger world in which a future stands behind a class."""

import unittest

from nextbehind.errors import BadFuture, TooMany
from nextbehind.futures import futures
from nextbehind.growing import grown
from nextbehind.world import World
from tests.asked import small_worlds, torn_in_three
from tests.cases import (
    LETTERS, METHOD, WorldCase, diamond, example_world, free_world, method_world, picture, torn_world, world_of,
)
from tests.samples import no_names, no_tuples
from tests.words import all_futures


class GrownCase(WorldCase):
    def assert_grown(self, world, future):
        """Check all that is promised of the pair, and return it."""
        ahead = picture(world)
        pair = grown(world, future)
        self.assertIs(type(pair), tuple)
        later, name = pair
        self.assertIs(type(later), World)
        self.assertIsNot(later, world)
        old = world.names
        self.assert_tuple(later.names[:len(old)], old)
        for label in old:
            self.assertEqual(later[label].bases, world[label].bases)
            self.assertEqual(list(later[label].methods.items()), list(world[label].methods.items()))
            self.assertEqual(later[label].linearization, world[label].linearization)
        further = later.names[len(old):]
        self.assertGreaterEqual(len(further), 1)
        self.assertLessEqual(len(further), max(1, len(future)))
        self.assertIn(name, further)
        for label in further:
            self.assertLessEqual(len(later[label].bases), 2)
            self.assertEqual(later[label].methods, {})
        line = later[name].linearization
        self.assertEqual(tuple(label for label in line if label not in further), future)
        self.assertEqual(picture(world), ahead)
        return pair


class GrownTest(GrownCase):
    def test_example(self):
        world = example_world()
        later, name = self.assert_grown(world, ("c", "b", "a"))
        line = later.member(name).linearization
        self.assertEqual([line.index("c") < line.index("b"), line.index("b") < line.index("a")], [True, True])

    def test_the_empty_future(self):
        for world in (World(), diamond(), free_world(23)):
            later, name = self.assert_grown(world, ())
            self.assertEqual(later.names, (*world.names, name))
            self.assertEqual(later[name].bases, ())

    def test_one_class(self):
        for world in (world_of("a"), diamond(), free_world(23)):
            later, name = self.assert_grown(world, ("a",))
            self.assertEqual(len(later), len(world) + 1)
            self.assertEqual(later[name].linearization, (name, "a"))

    def test_all_futures_of_small_worlds(self):
        many = 0
        for world in [*small_worlds()[:16], world_of(*"abcd"), torn_in_three()]:
            for future in all_futures(world)[::3]:
                self.assert_grown(world, future)
                many += 1
        self.assertGreater(many, 300)

    def test_all_classes(self):
        world = world_of("a", "b", "c a", "d b", "e c", "f")
        for future in list(futures(world, *world.names))[::5]:
            self.assertEqual(len(future), 6)
            self.assert_grown(world, future)

    def test_an_order_that_no_class_has_yet(self):
        world = diamond()
        self.assert_grown(world, ("c", "b", "a"))
        self.assert_grown(free_world(12), tuple(LETTERS[:12][::-1]))
        deep = world_of("a", *[f"{name} {before}" for before, name in zip(LETTERS, LETTERS[1:12])])
        self.assert_grown(deep, tuple(LETTERS[:12][::-1]))

    def test_names_that_are_taken_already(self):
        letters = LETTERS[::-1]
        for many in (10, 11, 12):
            for row in (LETTERS, letters, LETTERS[7:], letters[5:]):
                self.assert_grown(world_of(*row[:many]), tuple(row[:many]))
        world = world_of("zz", "new", "later", "further", "x zz", "name", "aa", "ab")
        self.assert_grown(world, ("x", "name", "zz", "new"))
        later, name = self.assert_grown(world, ())
        self.assert_grown(later, (name,))

    def test_the_methods_of_the_world(self):
        world = method_world()
        later, name = self.assert_grown(world, ("b", "a"))
        self.assertEqual(later["b"].methods, {"m": (("o",), ("yes",), (), ())})
        self.assertEqual(later[name].methods, {})

    def test_the_world_stays_as_it_is_if_the_larger_one_changes(self):
        world = example_world()
        later, name = grown(world, ("c", "b", "a"))
        ahead = picture(world)
        for label in reversed(later.names[3:]):
            later.remove(label)
        later["c"].bases = ("b",)
        later.define("y", m=METHOD)
        self.assertEqual(picture(world), ahead)
        later, name = grown(world, ("b", "a"))
        shown = picture(later)
        world["b"].bases = ()
        world.remove("c")
        self.assertEqual(picture(later), shown)
        self.assertEqual(later[name].linearization[-1], "a")

    def test_equal_calls_return_equal_results(self):
        for world, future in ((diamond(), ("c", "b", "a")), (free_world(5), tuple("edcba")), (World(), ())):
            expected = grown(world, future)
            for other in (world, world.copy(), World.read(str(world))):
                self.assertEqual(grown(other, future), expected)
                self.assertIsNot(grown(other, future)[0], expected[0])

    def test_by_name(self):
        world = example_world()
        self.assertEqual(grown(world=world, future=("b", "a")), grown(world, ("b", "a")))


class RefusedTest(WorldCase):
    def test_what_is_not_a_future(self):
        world = example_world()
        for thing in [*no_names(), *no_tuples(), ("z",), ("b",), ("a", "b"), ("b", "a", "c"), ("a", "a"), ["b", "a"],
                      "ba", (("b", "a"),), {"b": 1, "a": 2}, ("b", "a", None)]:
            if thing not in ((), ("a",)):
                with self.subTest(repr(thing)[:40]):
                    self.assert_refused(world, BadFuture, None, grown, world, thing)
        self.assert_refused(torn_world(), BadFuture, None, grown, torn_world(), ("d", "e", "a", "b"))
        self.assert_refused(World(), BadFuture, None, grown, World(), ("a",))

    def test_the_future_comes_first(self):
        self.assert_raises_fields(BadFuture, None, grown, free_world(24), ("z",))
        self.assert_raises_fields(BadFuture, None, grown, free_world(24), None)

    def test_too_many(self):
        for many in (24, 23):
            world = free_world(many)
            names = tuple(LETTERS[:many])
            for future in (names, names[:2], names[::-1][:12]):
                self.assert_refused(world, TooMany, (24,), grown, world, future)
        self.assert_refused(free_world(24), TooMany, (24,), grown, free_world(24), ())
        self.assert_refused(free_world(24), TooMany, (24,), grown, free_world(24), ("c",))

    def test_24_and_25_classes(self):
        for many in (12, 13, 20, 22, 23, 24):
            world = free_world(many)
            names = tuple(LETTERS[:many][::-1])
            for size in range(many + 1):
                future = names[:size]
                if many + max(1, size) > 24:
                    self.assert_refused(world, TooMany, (24,), grown, world, future)
                else:
                    later, name = grown(world, future)
                    self.assertLessEqual(len(later), 24)
                    found = [label for label in later[name].linearization if label in names]
                    self.assertEqual(tuple(found), future)


if __name__ == "__main__":
    unittest.main()
