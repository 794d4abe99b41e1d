"""Points 2, 5, 6, 7, 17: worlds, definitions, removal, members and copies."""

import unittest

from nextbehind.errors import BadBases, BadMethod, BadName, Clash, InUse, NoClass, Taken, TooMany
from nextbehind.merging import is_clash
from nextbehind.world import Member, World
from tests.cases import (
    LETTERS, METHOD, STOPPER, WorldCase, diamond, example_world, free_world, method_world, picture, some_worlds,
    world_of,
)
from tests.samples import Plain, no_names, no_tuples
from tests.test_merging import fewest_steps, merge_by_the_words


def python_line(world, name, made):
    """The order in which Python itself searches the same classes."""
    bases = tuple(python_line(world, base, made) for base in world[name].bases)
    made.setdefault(name, type(name, bases, {}))
    return made[name]


class DefineTest(WorldCase):
    def test_examples(self):
        world = World()
        world.define("a", talk=((), ("hi",), (), ()))
        self.assert_tuple(world.define("b", "a"), ("b", "a"))
        world = example_world()
        self.assert_refused(world, Clash, None, world.define, "d", "a", "b")

    def test_no_bases(self):
        world = World()
        for at, name in enumerate(LETTERS[:5]):
            self.assert_tuple(world.define(name), (name,))
            self.assert_tuple(world.names, tuple(LETTERS[:at + 1]))
            self.assert_tuple(world.member(name).bases, ())
            self.assertEqual(world.member(name).methods, {})

    def test_one_base_and_several(self):
        world = world_of("o", "a o", "b o")
        self.assert_tuple(world.define("c", "a"), ("c", "a", "o"))
        self.assert_tuple(world.define("d", "b", "a"), ("d", "b", "a", "o"))
        self.assert_tuple(world["d"].bases, ("b", "a"))
        self.assert_tuple(world.define("e", "c", "b"), ("e", "c", "a", "b", "o"))
        self.assertEqual(world.names, ("o", "a", "b", "c", "d", "e"))

    def test_diamond(self):
        world = example_world()
        self.assert_tuple(world.define("d", "b", "c"), ("d", "b", "c", "a"))
        self.assert_tuple(world.define("e", "c", "b"), ("e", "c", "b", "a"))

    def test_three_bases(self):
        world = world_of("o", "a o", "b o", "c o", "d o", "e o")
        self.assertEqual(world.define("p", "a", "b", "c"), ("p", "a", "b", "c", "o"))
        self.assertEqual(world.define("q", "d", "b", "e"), ("q", "d", "b", "e", "o"))
        self.assertEqual(world.define("r", "d", "a"), ("r", "d", "a", "o"))
        self.assert_tuple(world.define("z", "p", "q", "r"), ("z", "p", "q", "r", "d", "a", "b", "c", "e", "o"))

    def test_a_base_ahead_of_its_own_subclass_is_a_clash_but_not_behind(self):
        world = world_of("a", "b a")
        self.assert_refused(world, Clash, None, world.define, "c", "a", "b")
        self.assertEqual(world.define("c", "b", "a"), ("c", "b", "a"))

    def test_methods(self):
        world = World()
        self.assertEqual(world.define("a", talk=METHOD, m=STOPPER), ("a",))
        self.assertEqual(world.define("b", "a", walk=METHOD), ("b", "a"))
        self.assertEqual(world["a"].methods, {"talk": METHOD, "m": STOPPER})
        self.assertEqual(world["b"].methods, {"walk": METHOD})

    def test_methods_are_in_alphabetical_order(self):
        world = World()
        world.define("a", z=METHOD, b=STOPPER, ab=METHOD)
        self.assertEqual(list(world["a"].methods.items()), [("ab", METHOD), ("b", STOPPER), ("z", METHOD)])
        methods = {"z": METHOD, "aa": STOPPER, "a": METHOD}
        world.define("b", **methods)
        methods["a"] = STOPPER
        methods.pop("z")
        self.assertEqual(list(world["b"].methods.items()), [("a", METHOD), ("aa", STOPPER), ("z", METHOD)])

    def test_the_name_of_a_method_may_be_that_of_a_class_or_parameter(self):
        world = World()
        world.define("a", a=METHOD, bases=METHOD, methods=METHOD)
        self.assertEqual(list(world["a"].methods), ["a", "bases", "methods"])

    def test_the_linearization_is_the_merge_by_the_words(self):
        for world in some_worlds(1, 60, 12):
            for name in world.names:
                bases = world[name].bases
                rows = [world[base].linearization for base in bases] + [bases]
                self.assertEqual(world[name].linearization, (name,) + merge_by_the_words(rows))

    def test_the_linearization_is_that_of_python(self):
        for world in some_worlds(2, 60, 12):
            made = {}
            for name in world.names:
                found = python_line(world, name, made)
                self.assertEqual(world[name].linearization, tuple(kind.__name__ for kind in found.__mro__[:-1]))

    def test_by_name(self):
        world = World()
        self.assertEqual(world.define(name="a"), ("a",))
        self.assertEqual(world.define(m=METHOD, name="b"), ("b",))
        self.assertEqual(world["b"].methods, {"m": METHOD})


class DefineRefusedTest(WorldCase):
    def setUp(self):
        self.world = world_of("a", "b a", "c a")

    def refuse(self, kind, fields, *values, **more):
        return self.assert_refused(self.world, kind, fields, self.world.define, *values, **more)

    def test_bad_name(self):
        for thing in no_names():
            with self.subTest(repr(thing)[:40]):
                self.refuse(BadName, None, thing)

    def test_taken(self):
        for name in "abc":
            self.refuse(Taken, (name,), name)
            self.refuse(Taken, (name,), name, "b", "c")

    def test_bad_bases(self):
        for thing in no_names():
            with self.subTest(repr(thing)[:40]):
                self.refuse(BadBases, None, "d", thing)
                self.refuse(BadBases, None, "d", "b", thing)
                self.refuse(BadBases, None, "d", "z", thing)
        self.refuse(BadBases, None, "d", "b", "b")
        self.refuse(BadBases, None, "d", "b", "c", "b")
        self.refuse(BadBases, None, "d", "z", "z")
        self.refuse(BadBases, None, "d", ("b", "c"))

    def test_eight_bases_and_nine(self):
        self.world = free_world(9)
        self.refuse(BadBases, None, "z", *LETTERS[:9])
        self.refuse(BadBases, None, "z", *LETTERS[:8], "y")
        self.assertEqual(self.world.define("z", *LETTERS[:8]), ("z", *LETTERS[:8]))

    def test_no_class(self):
        self.refuse(NoClass, ("y",), "d", "y")
        self.refuse(NoClass, ("y",), "d", "b", "y", "x")
        self.refuse(NoClass, ("d",), "d", "d")
        self.refuse(NoClass, ("d",), "d", "b", "d")

    def test_bad_method(self):
        for thing in [*no_tuples(), (), METHOD[:3], (("o",), ("hi",), None, ("bye",))]:
            with self.subTest(repr(thing)[:40]):
                self.refuse(BadMethod, ("m",), "d", m=thing)
                self.refuse(BadMethod, ("m",), "d", "b", a=METHOD, z=METHOD, m=thing)
        for key in ["M", "", "a b", "a1", "abcdefghi", "_"]:
            self.refuse(BadMethod, (key,), "d", **{key: METHOD})

    def test_the_first_bad_method_in_alphabetical_order(self):
        self.refuse(BadMethod, ("b",), "d", z=None, b=None, y=METHOD)
        self.refuse(BadMethod, ("M",), "d", **{"b": None, "M": METHOD, "a": METHOD})
        self.refuse(BadMethod, ("b",), "d", **{"mM": METHOD, "b": 1})
        self.refuse(BadMethod, ("mM",), "d", **{"mM": METHOD, "b": METHOD})

    def test_three_methods_and_four(self):
        self.refuse(TooMany, (3,), "d", h=METHOD, i=METHOD, j=METHOD, k=METHOD)
        self.refuse(TooMany, (3,), "d", h=METHOD, i=METHOD, j=METHOD, k=METHOD, m=METHOD)
        self.world.define("d", h=METHOD, i=METHOD, j=METHOD)
        self.assertEqual(list(self.world["d"].methods), ["h", "i", "j"])

    def test_24_classes_and_25(self):
        self.world = free_world(23)
        self.assertEqual(self.world.define("x", "w"), ("x", "w"))
        self.refuse(TooMany, (24,), "y")
        self.refuse(TooMany, (24,), "y", "a", "b", m=METHOD)
        self.world.remove("x")
        self.assertEqual(self.world.define("y"), ("y",))
        self.assertEqual(len(self.world), 24)

    def test_clash(self):
        error = self.refuse(Clash, None, "d", "a", "b")
        self.assertEqual((error.name, error.tuples), ("d", (("a",), ("b", "a"), ("a", "b"))))
        self.assert_tuple(error.tuples, (("a",), ("b", "a"), ("a", "b")))
        self.assertIn(error.steps, [(("a", "b", 2), ("b", "a", 1)), (("b", "a", 1), ("a", "b", 2))])

    def test_clash_of_linearizations(self):
        self.world = world_of("a", "b", "c", "x a b", "y b c", "z c a")
        self.world.define("p", "x", "y")
        error = self.refuse(Clash, None, "q", "x", "y", "z")
        tuples = (("x", "a", "b"), ("y", "b", "c"), ("z", "c", "a"), ("x", "y", "z"))
        self.assertEqual((error.name, error.tuples, len(error.steps)), ("q", tuples, 3))
        self.assertTrue(is_clash(error.tuples, error.steps))

    def test_clashes_have_the_fewest_steps(self):
        found = 0
        for world in some_worlds(3, 40, 8):
            for one in world.names:
                for other in world.names:
                    lines = [world[one].linearization, world[other].linearization, (one, other)]
                    if one != other and merge_by_the_words(lines) is None:
                        error = self.assert_refused(world, Clash, None, world.define, "new", one, other)
                        self.assertEqual((error.name, error.tuples), ("new", tuple(lines)))
                        self.assertTrue(is_clash(error.tuples, error.steps))
                        self.assertEqual(len(error.steps), fewest_steps(lines))
                        found += 1
        self.assertGreater(found, 50)

    def test_several_at_once(self):
        four = {"h": METHOD, "i": METHOD, "j": METHOD, "k": METHOD}
        self.refuse(BadName, None, "D", "B", "y", M=None, **four)
        self.refuse(Taken, ("c",), "c", "B", "y", M=None, **four)
        self.refuse(BadBases, None, "d", "y", "B", M=None, **four)
        self.refuse(BadBases, None, "d", *LETTERS[3:12])
        self.refuse(NoClass, ("y",), "d", "a", "b", "y", M=None, **four)
        self.refuse(BadMethod, ("M",), "d", "a", "b", M=None, **four)
        self.refuse(TooMany, (3,), "d", "a", "b", **four)
        self.refuse(Clash, None, "d", "a", "b", m=METHOD)

    def test_several_at_once_in_a_full_world(self):
        self.world = world_of("a", "b a", *LETTERS[2:24])
        four = {"h": METHOD, "i": METHOD, "j": METHOD, "k": METHOD}
        self.refuse(BadName, None, "")
        self.refuse(Taken, ("x",), "x")
        self.refuse(BadBases, None, "y", "a", "a")
        self.refuse(NoClass, ("z",), "y", "z")
        self.refuse(BadMethod, ("k",), "y", "a", "b", **{**four, "k": None})
        self.refuse(TooMany, (3,), "y", "a", "b", **four)
        self.refuse(TooMany, (24,), "y", "a", "b", m=METHOD)


class RemoveTest(WorldCase):
    def test_remove(self):
        world = diamond()
        self.assertIsNone(world.remove("d"))
        self.assertEqual(world.names, ("a", "b", "c"))
        self.assertEqual(world, example_world())
        self.assertIsNone(world.remove(name="b"))
        self.assertEqual(world.names, ("a", "c"))
        world.remove("c")
        world.remove("a")
        self.assertEqual((world.names, len(world)), ((), 0))

    def test_define_again(self):
        world = method_world()
        world.define("c")
        world.remove("b")
        self.assertEqual(world.define("b", "c", talk=METHOD), ("b", "c"))
        self.assertEqual(world.names, ("a", "c", "b"))
        self.assertEqual(world["b"].methods, {"talk": METHOD})
        world.remove("a")
        world.define("a", "b")
        self.assertEqual(world["a"].linearization, ("a", "b", "c"))

    def test_bad_name_and_no_class(self):
        world = example_world()
        for thing in no_names():
            with self.subTest(repr(thing)[:40]):
                self.assert_refused(world, BadName, None, world.remove, thing)
        self.assert_refused(world, NoClass, ("d",), world.remove, "d")
        self.assert_refused(World(), NoClass, ("a",), World().remove, "a")

    def test_in_use(self):
        world = example_world()
        self.assert_refused(world, InUse, ("a", "b"), world.remove, "a")
        world.remove("b")
        self.assert_refused(world, InUse, ("a", "c"), world.remove, "a")
        world.define("b", "a")
        self.assert_refused(world, InUse, ("a", "c"), world.remove, "a")
        world.remove("c")
        self.assert_refused(world, InUse, ("a", "b"), world.remove, "a")

    def test_only_bases_are_in_use(self):
        world = world_of("a", "b a", "c b")
        self.assert_refused(world, InUse, ("a", "b"), world.remove, "a")
        self.assert_refused(world, InUse, ("b", "c"), world.remove, "b")
        world.define("d", "c", "a")
        world.member("b").bases = ()
        world.member("c").bases = ()
        self.assert_refused(world, InUse, ("a", "d"), world.remove, "a")


class MemberTest(WorldCase):
    def test_example(self):
        self.assertEqual(example_world().member("c").linearization, ("c", "a"))

    def test_what_it_shows(self):
        world = method_world()
        member = world.member("b")
        self.assertIs(type(member), Member)
        self.assertEqual(member.label, "b")
        self.assert_tuple(member.bases, ("a",))
        self.assert_tuple(member.linearization, ("b", "a"))
        self.assertEqual(member.methods, {"m": (("o",), ("yes",), (), ())})
        self.assertEqual(world.member(name="a").label, "a")
        self.assertEqual(world["a"].label, "a")

    def test_errors(self):
        world = example_world()
        for function in (world.member, world.__getitem__):
            for thing in no_names():
                with self.subTest(repr(thing)[:40]):
                    self.assert_refused(world, BadName, None, function, thing)
            self.assert_refused(world, NoClass, ("d",), function, "d")

    def test_kept_through_changes(self):
        world = example_world()
        kept = world.member("b")
        world.define("d", m=METHOD)
        kept.bases = ()
        self.assertEqual((kept.bases, kept.linearization), ((), ("b",)))
        world.remove("b")
        self.assertEqual(kept.label, "b")
        for read in (lambda: kept.bases, lambda: kept.linearization, lambda: kept.methods):
            self.assert_refused(world, NoClass, ("b",), read)
        world.define("b", "d", "a", talk=STOPPER)
        self.assertEqual((kept.label, kept.bases, kept.linearization), ("b", ("d", "a"), ("b", "d", "a")))
        self.assertEqual(kept.methods, {"talk": STOPPER})

    def test_kept_through_a_change_of_an_ancestor(self):
        world = world_of("o", "a", "b a", "c b")
        kept = world.member("c")
        world.member("a").bases = ("o",)
        self.assertEqual(kept.linearization, ("c", "b", "a", "o"))

    def test_kept_through_trials_and_rehearsals(self):
        world = example_world()
        kept = world.member("b")
        with world.trial():
            world.remove("b")
            self.assert_raises_fields(NoClass, ("b",), lambda: kept.bases)
        self.assertEqual(kept.bases, ("a",))
        world.rehearse(("remove", "b"))
        self.assertEqual(kept.bases, ("a",))
        world.perform(("remove", "b"), ("define", "b", ("c",), {}))
        self.assertEqual(kept.linearization, ("b", "c", "a"))

    def test_what_is_returned_is_new(self):
        world = method_world()
        kept = world.member("b")
        kept.methods["m"] = STOPPER
        kept.methods["n"] = METHOD
        kept.methods.clear()
        self.assertEqual(kept.methods, {"m": (("o",), ("yes",), (), ())})
        self.assertIsNot(kept.methods, kept.methods)

    def test_a_member_of_a_copy_is_of_the_copy(self):
        world = example_world()
        twin = world.copy()
        kept = twin.member("b")
        world.remove("b")
        self.assertEqual(kept.bases, ("a",))
        twin.remove("b")
        self.assert_raises_fields(NoClass, ("b",), lambda: kept.bases)


class WorldTest(WorldCase):
    def test_new_worlds(self):
        for world in (World(), World.empty(), World().empty(), World.read("")):
            self.assertIs(type(world), World)
            self.assertEqual((world.names, world.linearizations, len(world), str(world)), ((), {}, 0, ""))
        one, other = World.empty(), World.empty()
        one.define("a")
        self.assertEqual((len(one), len(other)), (1, 0))

    def test_class_values(self):
        self.assertEqual((World.MAX_CLASSES, World.MAX_BASES, World.MAX_METHODS), (24, 8, 3))
        self.assertEqual((World().MAX_CLASSES, World().MAX_BASES, World().MAX_METHODS), (24, 8, 3))

    def test_names_and_linearizations(self):
        world = world_of("b", "a b", "c")
        self.assert_tuple(world.names, ("b", "a", "c"))
        self.assertEqual(list(world.linearizations.items()), [("b", ("b",)), ("a", ("a", "b")), ("c", ("c",))])
        self.assertEqual({type(line) for line in world.linearizations.values()}, {tuple})

    def test_linearizations_are_new(self):
        world = example_world()
        found = world.linearizations
        found["a"] = ("z",)
        found.pop("b")
        self.assertEqual(world.linearizations, {"a": ("a",), "b": ("b", "a"), "c": ("c", "a")})

    def test_properties_cannot_be_assigned(self):
        world = example_world()
        for name in ("names", "linearizations"):
            with self.assertRaises(AttributeError):
                setattr(world, name, ())
        for name in ("label", "linearization", "methods"):
            with self.assertRaises(AttributeError):
                setattr(world["a"], name, "b")

    def test_len(self):
        world = World()
        for at, name in enumerate(LETTERS[:24]):
            self.assertEqual(len(world), at)
            world.define(name)
        self.assertEqual(len(world), 24)

    def test_in(self):
        world = example_world()
        for name in "abc":
            self.assertIs(name in world, True)
        for thing in [*no_names(), *no_tuples(), "d", "z", ("b",), Plain, world, world["a"]]:
            if thing not in ("a", "b", "c"):
                self.assertIs(thing in world, False, repr(thing)[:40])
        self.assertIs("a" in World(), False)

    def test_copies_change_on_their_own(self):
        world = method_world()
        twin = world.copy()
        self.assertIs(type(twin), World)
        self.assertEqual(twin, world)
        ahead = picture(world)
        twin.define("c", "b")
        twin["b"].bases = ()
        self.assertEqual(picture(world), ahead)
        self.assertNotEqual(twin, world)
        behind = picture(twin)
        world.remove("b")
        world.perform(("define", "z", (), {}))
        self.assertEqual(picture(twin), behind)

    def test_a_copy_of_a_world_in_a_trial(self):
        world = example_world()
        with world.trial():
            world.define("d")
            twin = world.copy()
        self.assertEqual((twin.names, world.names), (("a", "b", "c", "d"), ("a", "b", "c")))


class EqualityTest(WorldCase):
    def assert_unequal(self, one, other):
        self.assertIs(one == other, False)
        self.assertIs(other == one, False)
        self.assertIs(one != other, True)

    def test_equal(self):
        for make in (World, example_world, diamond, method_world, lambda: free_world(24)):
            self.assertIs(make() == make(), True)
            self.assertIs(make() != make(), False)

    def test_the_way_does_not_matter(self):
        world = world_of("a", "z", "b a", "c a")
        world.remove("z")
        self.assertIs(world == example_world(), True)
        one, other = World(), World()
        one.define("a", m=METHOD, k=STOPPER)
        other.define("a", k=STOPPER, m=METHOD)
        self.assertIs(one == other, True)
        one = world_of("a", "b", "c b")
        one["c"].bases = ("a",)
        self.assertIs(one == world_of("a", "b", "c a"), True)

    def test_another_order_of_the_classes(self):
        self.assert_unequal(world_of("a", "b"), world_of("b", "a"))
        self.assert_unequal(world_of("a", "b a", "c a"), world_of("a", "c a", "b a"))

    def test_more_or_fewer_classes(self):
        self.assert_unequal(world_of("a"), World())
        self.assert_unequal(world_of("a", "b"), world_of("a"))
        self.assert_unequal(world_of("a"), world_of("b"))

    def test_other_bases(self):
        self.assert_unequal(world_of("a", "b a"), world_of("a", "b"))
        self.assert_unequal(world_of("a", "b", "c a"), world_of("a", "b", "c b"))
        # The linearizations are the same here.
        self.assert_unequal(world_of("a", "b a", "c b a"), world_of("a", "b a", "c b"))

    def test_another_order_of_the_bases(self):
        self.assert_unequal(world_of("a", "b", "c a b"), world_of("a", "b", "c b a"))

    def test_other_methods(self):
        worlds = []
        for methods in ({}, {"m": METHOD}, {"m": STOPPER}, {"k": METHOD}, {"k": METHOD, "m": METHOD}):
            world = World()
            world.define("a", **methods)
            worlds.append(world)
        for at, one in enumerate(worlds):
            for other in worlds[:at]:
                self.assert_unequal(one, other)

    def test_values_of_other_kinds(self):
        world = example_world()
        for thing in [None, 0, 3, True, "", str(world), (), world.names, world.linearizations, [], Plain(), world["a"]]:
            self.assert_unequal(world, thing)

        class Same:
            def __eq__(self, other):
                return True

        self.assertIs(world == Same(), False)


if __name__ == "__main__":
    unittest.main()
