"""Points 5, 7 and the interface: the bases of a member, assigned."""

import itertools
import unittest

from nextbehind.errors import BadBases, Clash, NoClass
from nextbehind.merging import is_clash
from nextbehind.world import World
from tests.cases import LETTERS, METHOD, WorldCase, diamond, example_world, free_world, picture, some_worlds, world_of
from tests.samples import no_names, no_tuples
from tests.test_merging import fewest_steps, merge_by_the_words


def assign(member, bases):
    member.bases = bases


class RebaseTest(WorldCase):
    def refuse(self, world, kind, fields, name, bases):
        return self.assert_refused(world, kind, fields, assign, world.member(name), bases)

    def test_bases_of_a_class_alone(self):
        world = world_of("a", "b", "c a")
        kept = world.member("c")
        for bases, line in ((("b",), "cb"), (("a", "b"), "cab"), (("b", "a"), "cba"), ((), "c")):
            kept.bases = bases
            self.assert_tuple(kept.bases, bases)
            self.assert_tuple(kept.linearization, tuple(line))
            self.assertEqual(world.linearizations["c"], tuple(line))

    def test_classes_that_are_defined_later_follow(self):
        world = world_of("o", "a", "b a", "c a", "d b c", "e")
        world["a"].bases = ("o",)
        self.assertEqual(world["d"].linearization, ("d", "b", "c", "a", "o"))
        world["b"].bases = ("o",)
        self.assertEqual(world["d"].linearization, ("d", "b", "c", "a", "o"))
        world["c"].bases = ()
        self.assertEqual(world["d"].linearization, ("d", "b", "o", "c"))
        self.assertEqual(world["e"].linearization, ("e",))

    def test_order_and_methods_stay(self):
        world = World()
        world.define("a", m=METHOD)
        world.define("b", "a", talk=METHOD)
        world.define("c", "b", m=METHOD)
        world["b"].bases = ()
        self.assertEqual(world.names, ("a", "b", "c"))
        self.assertEqual([list(world[name].methods) for name in "abc"], [["m"], ["talk"], ["m"]])

    def test_it_is_as_if_defined_so(self):
        for world in some_worlds(4, 30, 7):
            for name, base in itertools.permutations(world.names, 2):
                if world.names.index(base) > world.names.index(name):
                    continue
                rows = {label: ((base,) if label == name else world[label].bases) for label in world.names}
                built = World()
                twin = world.copy()
                try:
                    for label in world.names:
                        built.define(label, *rows[label], **world[label].methods)
                except Clash as clash:
                    error = self.refuse(twin, Clash, None, name, (base,))
                    self.assertEqual((error.name, error.tuples, error.steps), (clash.name, clash.tuples, clash.steps))
                else:
                    twin[name].bases = (base,)
                    self.assertEqual(picture(twin), picture(built))

    def test_missing_class(self):
        world = example_world()
        kept = world.member("b")
        world.remove("b")
        for bases in (("a",), (), None, ["a"], ("z",), ("c",), ("b",)):
            self.assert_refused(world, NoClass, ("b",), assign, kept, bases)

    def test_bad_bases(self):
        world = diamond()
        for thing in [*no_tuples(), ["b", "c"], ("b", "b"), ("c", "b", "c"), ("z", "z")]:
            if thing != ():
                with self.subTest(repr(thing)[:40]):
                    self.refuse(world, BadBases, None, "d", thing)
        for thing in no_names():
            with self.subTest(repr(thing)[:40]):
                self.refuse(world, BadBases, None, "d", (thing,))
                self.refuse(world, BadBases, None, "d", ("z", "b", thing))

    def test_eight_bases_and_nine(self):
        world = free_world(10)
        self.refuse(world, BadBases, None, "j", tuple("abcdefghi"))
        self.refuse(world, BadBases, None, "j", tuple("abcdefghz"))
        world["j"].bases = tuple("hgfedcba")
        self.assertEqual(world["j"].linearization, tuple("jhgfedcba"))

    def test_no_class(self):
        world = diamond()
        self.refuse(world, NoClass, ("y",), "c", ("y",))
        self.refuse(world, NoClass, ("y",), "c", ("a", "y", "x"))
        # Ahead of a base that is not defined earlier.
        self.refuse(world, NoClass, ("y",), "b", ("c", "b", "y"))

    def test_not_defined_earlier(self):
        world = diamond()
        for name, base in (("a", "a"), ("d", "d"), ("a", "b"), ("b", "c"), ("a", "d")):
            self.refuse(world, BadBases, None, name, (base,))
        self.refuse(world, BadBases, None, "c", ("a", "d"))
        # Ahead of a clash.
        self.refuse(world_of("a", "b a", "c", "d"), BadBases, None, "c", ("a", "b", "d"))

    def test_clash_of_the_class_itself(self):
        world = world_of("a", "b a", "c", "d c")
        error = self.refuse(world, Clash, None, "c", ("a", "b"))
        self.assertEqual((error.name, error.tuples), ("c", (("a",), ("b", "a"), ("a", "b"))))
        self.assertEqual(len(error.steps), 2)
        self.assertTrue(is_clash(error.tuples, error.steps))

    def test_clash_of_a_later_class(self):
        world = world_of("a", "b", "p a b", "q", "r p q", "s q p")
        error = self.refuse(world, Clash, None, "q", ("b", "a"))
        self.assertEqual((error.name, error.tuples), ("r", (("p", "a", "b"), ("q", "b", "a"), ("p", "q"))))
        self.assert_tuple(error.tuples[2], ("p", "q"))
        self.assertEqual(len(error.steps), 2)
        self.assertTrue(is_clash(error.tuples, error.steps))

    def test_the_tuples_are_those_that_would_be_merged(self):
        # The first class that clashes has bases whose linearizations change, too.
        world = world_of("a", "b", "p", "q p", "r a b", "s r q", "t s")
        error = self.refuse(world, Clash, None, "p", ("b", "a"))
        self.assertEqual((error.name, error.tuples), ("s", (("r", "a", "b"), ("q", "p", "b", "a"), ("r", "q"))))
        self.assertTrue(is_clash(error.tuples, error.steps))

    def test_clashes_have_the_fewest_steps(self):
        found = 0
        for world in some_worlds(5, 30, 8):
            for bases in itertools.permutations(world.names[:-1], 2):
                lines = [world[base].linearization for base in bases] + [bases]
                if merge_by_the_words(lines) is None:
                    error = self.refuse(world, Clash, None, world.names[-1], bases)
                    self.assertEqual((error.name, error.tuples), (world.names[-1], tuple(lines)))
                    self.assertEqual(len(error.steps), fewest_steps(lines))
                    found += 1
        self.assertGreater(found, 30)

    def test_in_a_full_world(self):
        world = free_world(24)
        world["x"].bases = tuple(LETTERS[8:16])
        self.assertEqual(world["x"].linearization, ("x", *LETTERS[8:16]))

    def test_a_base_that_is_removed_in_between(self):
        world = example_world()
        world["b"].bases = ()
        world["c"].bases = ()
        world.remove("a")
        self.refuse(world, NoClass, ("a",), "b", ("a",))
        world.define("a")
        self.refuse(world, BadBases, None, "b", ("a",))


if __name__ == "__main__":
    unittest.main()
