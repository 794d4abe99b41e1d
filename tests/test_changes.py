"""The interface of World: perform, rehearse and trial."""

import unittest

from nextbehind.errors import BadBases, BadChange, BadMethod, BadName, Clash, InUse, NoClass, Taken, TooMany
from nextbehind.world import World
from tests.cases import LETTERS, METHOD, STOPPER, WorldCase, example_world, free_world, method_world, picture, world_of
from tests.samples import Plain, no_names, no_tuples

# Each is refused for its form alone, whatever the world is.
NO_CHANGES = [
    (), ("define",), ("define", "d"), ("define", "d", ()), ("define", "d", (), {}, ()), ("remove",),
    ("remove", "c", ()), ("rebase", "c"), ("rebase", "c", (), {}), ("rebase",), ("Define", "d", (), {}),
    ("delete", "c"), ("", "c"), ("rename", "c", ()), ("remove ", "c"), (None, "c"), (0, "c"), (("remove",), "c"),
    (["remove"], "c"), ({}, "c"), (Plain(), "c"), (b"remove", "c"), ("c", "remove"), ["remove", "c"],
    ["define", "d", (), {}], ["rebase", "c", ()],
    ("define", "d", (), {1: METHOD}), ("define", "d", (), {"m": METHOD, None: METHOD}),
    ("define", "d", (), {("m",): METHOD}), ("define", "d", (), [("m", METHOD)]), ("define", "d", {}, ()),
]


def wrong_changes():
    things = [*NO_CHANGES, *[thing for thing in no_tuples() if thing != ()]]
    for part in no_tuples():
        if part != ():
            things.append(("define", "d", part, {}))
            things.append(("rebase", "c", part))
    for part in [*no_tuples(), ()]:
        if not isinstance(part, dict):
            things.append(("define", "d", (), part))
    return things


class PerformTest(WorldCase):
    def refuse(self, world, kind, fields, *changes):
        """Both refuse the same changes, and neither has an effect."""
        self.assert_refused(world, kind, fields, world.rehearse, *changes)
        return self.assert_refused(world, kind, fields, world.perform, *changes)

    def perform(self, world, *changes):
        """Both return the same, and only perform has an effect."""
        ahead = picture(world)
        told = world.rehearse(*changes)
        self.assertEqual(picture(world), ahead)
        results = world.perform(*changes)
        self.assertEqual(told, results)
        self.assertEqual((type(told), type(results)), (list, list))
        return results

    def test_examples(self):
        world = World()
        self.assertEqual(world.rehearse(("define", "a", (), {})), [("a",)])
        self.assertEqual(len(world), 0)
        results = world.perform(("define", "a", (), {}), ("define", "b", ("a",), {}))
        self.assertEqual(results, [("a",), ("b", "a")])

    def test_no_changes(self):
        world = example_world()
        self.assertEqual(self.perform(world), [])
        self.assertEqual(world, example_world())

    def test_each_change(self):
        world = example_world()
        results = self.perform(
            world,
            ("define", "d", ("b", "c"), {"talk": METHOD, "m": STOPPER}),
            ("rebase", "c", ()),
            ("define", "e", (), {}),
            ("remove", "d"),
            ("rebase", "e", ("b", "c")),
        )
        self.assertEqual(results, [("d", "b", "c", "a"), ("c",), ("e",), None, ("e", "b", "a", "c")])
        expected = world_of("a", "b a", "c", "e b c")
        self.assertEqual(world, expected)

    def test_they_are_as_the_methods(self):
        world, other = example_world(), example_world()
        results = self.perform(world, ("define", "d", ("c", "b"), {"m": METHOD, "k": STOPPER}), ("rebase", "b", ()))
        self.assertEqual(results, [other.define("d", "c", "b", m=METHOD, k=STOPPER), ("b",)])
        other["b"].bases = ()
        self.assertEqual(picture(world), picture(other))

    def test_later_changes_see_the_earlier_ones(self):
        world = World()
        self.perform(world, ("define", "a", (), {}), ("remove", "a"), ("define", "a", (), {"m": METHOD}))
        self.assertEqual(world["a"].methods, {"m": METHOD})
        self.refuse(world, Taken, ("b",), ("define", "b", (), {}), ("define", "b", (), {}))
        self.refuse(world, NoClass, ("a",), ("remove", "a"), ("define", "b", ("a",), {}))
        self.refuse(world, InUse, ("a", "b"), ("define", "b", ("a",), {}), ("remove", "a"))

    def test_a_later_change_is_refused(self):
        world = method_world()
        good = (("define", "c", ("b",), {"m": METHOD}), ("rebase", "b", ()), ("remove", "a"))
        self.refuse(world, BadName, None, *good, ("define", "C", (), {}))
        self.refuse(world, BadName, None, *good, ("remove", ""), ("remove", "a"))
        self.refuse(world, BadName, None, *good, ("rebase", "b ", ("B",)))
        self.refuse(world, Taken, ("b",), *good, ("define", "b", (), {}))
        self.refuse(world, BadBases, None, *good, ("define", "d", ("b", "b"), {}))
        self.refuse(world, BadBases, None, *good, ("rebase", "b", ("c",)))
        self.refuse(world, NoClass, ("a",), *good, ("define", "d", ("a",), {}))
        self.refuse(world, NoClass, ("a",), *good, ("remove", "a"))
        self.refuse(world, NoClass, ("a",), *good, ("rebase", "a", ("B",)))
        self.refuse(world, NoClass, ("z",), *good, ("rebase", "c", ("b", "z")))
        self.refuse(world, BadMethod, ("m",), *good, ("define", "d", (), {"m": None}))
        self.refuse(world, InUse, ("b", "c"), *good, ("remove", "b"), ("remove", "z"))
        self.refuse(world, Clash, None, *good, ("define", "d", ("b", "c"), {}))
        self.assertEqual(world, method_world())
        self.assertEqual(self.perform(world, *good), [("c", "b", "a"), ("b",), None])

    def test_too_many(self):
        world = free_world(23)
        last = ("define", "x", (), {})
        self.refuse(world, TooMany, (24,), last, ("define", "y", (), {}))
        self.refuse(world, TooMany, (3,), last, ("define", "y", (), dict.fromkeys("abcd", METHOD)))
        self.perform(world, last, ("remove", "a"), ("define", "y", (), {}))
        self.assertEqual(world.names, tuple(LETTERS[1:25]))
        self.refuse(world, BadBases, None, ("remove", "y"), ("define", "y", tuple(LETTERS[1:10]), {}))

    def test_methods_that_define_is_never_passed(self):
        world = World()
        for key in ("name", "self"):
            self.refuse(world, BadMethod, (key,), ("define", "a", (), {key: METHOD}))
        self.refuse(world, BadMethod, ("name",), ("define", "a", (), {"self": METHOD, "name": METHOD, "z": None}))
        self.refuse(world, BadMethod, ("",), ("define", "a", (), {"self": METHOD, "": METHOD}))
        self.perform(world, ("define", "name", (), {"me": METHOD}), ("define", "self", ("name",), {}))
        self.assertEqual(world.names, ("name", "self"))

    def test_the_first_error_in_the_order_of_define(self):
        world = world_of("a", "b a")
        four = dict.fromkeys("abcd", METHOD)
        self.refuse(world, BadName, None, ("define", None, ("B",), {"M": None}))
        self.refuse(world, Taken, ("a",), ("define", "a", ("B",), {"M": None}))
        self.refuse(world, BadBases, None, ("define", "c", ("y", 1), {"M": None}))
        self.refuse(world, NoClass, ("y",), ("define", "c", ("a", "b", "y"), {"M": None}))
        self.refuse(world, BadMethod, ("M",), ("define", "c", ("a", "b"), {"M": None, **four}))
        self.refuse(world, TooMany, (3,), ("define", "c", ("a", "b"), four))
        error = self.refuse(world, Clash, None, ("define", "c", ("a", "b"), {}))
        self.assertEqual((error.name, error.tuples), ("c", (("a",), ("b", "a"), ("a", "b"))))

    def test_names_of_any_kind(self):
        world = example_world()
        for thing in no_names():
            with self.subTest(repr(thing)[:40]):
                self.refuse(world, BadName, None, ("define", thing, (), {}))
                self.refuse(world, BadName, None, ("remove", thing))
                self.refuse(world, BadName, None, ("rebase", thing, ()))
                self.refuse(world, BadBases, None, ("define", "d", (thing,), {}))
                self.refuse(world, BadBases, None, ("rebase", "c", ("a", thing)))

    def test_bad_change(self):
        world = example_world()
        good = ("define", "d", ("b", "c"), {})
        for thing in wrong_changes():
            with self.subTest(repr(thing)[:60]):
                self.refuse(world, BadChange, (0,), thing)
                self.refuse(world, BadChange, (2,), good, ("remove", "d"), thing, good)

    def test_the_first_bad_change_ahead_of_any_change(self):
        world = example_world()
        self.refuse(world, BadChange, (1,), ("remove", "z"), ("remove",), None)
        self.refuse(world, BadChange, (2,), ("define", "a", (), {}), ("remove", "a"), ("rebase", "a", ["b"]))
        self.refuse(world, BadChange, (3,), ("remove", "c"), ("remove", "b"), ("remove", "a"), ())
        error = self.refuse(world, BadChange, (0,), (), ("remove", "z"))
        self.assertIs(type(error.index), int)

    def test_arguments_stay_as_they_are_and_are_not_kept(self):
        world = World()
        methods = {"z": METHOD, "b": STOPPER}
        change = ("define", "a", (), methods)
        world.rehearse(change)
        world.perform(change)
        self.assertEqual(list(methods.items()), [("z", METHOD), ("b", STOPPER)])
        methods.clear()
        self.assertEqual(list(world["a"].methods.items()), [("b", STOPPER), ("z", METHOD)])

    def test_the_returned_list_is_not_kept(self):
        world = World()
        results = world.perform(("define", "a", (), {}))
        results.clear()
        self.assertEqual(world.linearizations, {"a": ("a",)})

    def test_members_and_copies(self):
        world = example_world()
        kept, twin = world.member("b"), world.copy()
        world.perform(("rebase", "b", ()), ("define", "d", ("b",), {}))
        self.assertEqual((kept.bases, world["d"].linearization), ((), ("d", "b")))
        self.assertEqual(twin, example_world())


class Sign(Exception):
    """An error that the tests raise in a trial."""


class TrialTest(WorldCase):
    def test_left_plainly(self):
        world = method_world()
        ahead = picture(world)
        with world.trial() as held:
            self.assertIs(held, world)
            held.define("c", "b")
            held["b"].bases = ()
            held.remove("a")
            self.assertEqual(world.names, ("b", "c"))
        self.assertEqual(picture(world), ahead)

    def test_left_by_an_error(self):
        world = method_world()
        ahead = picture(world)
        error = Sign("told")
        with self.assertRaises(Sign) as caught:
            with world.trial():
                world.perform(("define", "c", (), {}), ("remove", "b"))
                raise error
        self.assertIs(caught.exception, error)
        self.assertEqual(picture(world), ahead)

    def test_left_by_an_error_of_the_world(self):
        world = example_world()
        with self.assertRaises(InUse):
            with world.trial():
                world.define("d")
                world.remove("a")
        self.assertEqual(world, example_world())

    def test_left_by_return_and_break(self):
        world = example_world()

        def leave():
            with world.trial() as held:
                held.define("d")
                return len(held)

        self.assertEqual(leave(), 4)
        for _ in range(2):
            with world.trial() as held:
                held.define("d")
                break
        self.assertEqual(world, example_world())

    def test_without_changes(self):
        world = example_world()
        with world.trial():
            pass
        self.assertEqual(world, example_world())

    def test_the_state_is_that_at_the_time_of_entering(self):
        world = example_world()
        trial = world.trial()
        world.define("d")
        with trial:
            world.define("e")
            world.remove("d")
        self.assertEqual(world.names, ("a", "b", "c", "d"))

    def test_nested(self):
        world = example_world()
        with world.trial():
            world.define("d")
            middle = picture(world)
            with world.trial() as held:
                self.assertIs(held, world)
                world.remove("d")
                world.define("e", m=METHOD)
                with world.trial():
                    world["b"].bases = ()
                self.assertEqual(world["b"].bases, ("a",))
                self.assertEqual(world.names, ("a", "b", "c", "e"))
            self.assertEqual(picture(world), middle)
            world.define("f")
            with self.assertRaises(Sign):
                with world.trial():
                    world.remove("f")
                    raise Sign
            self.assertEqual(world.names, ("a", "b", "c", "d", "f"))
        self.assertEqual(world, example_world())

    def test_an_error_through_nested_trials(self):
        world = example_world()
        with self.assertRaises(Sign):
            with world.trial():
                world.define("d")
                with world.trial():
                    world.define("e")
                    raise Sign
        self.assertEqual(world, example_world())

    def test_trials_of_several_worlds(self):
        one, other = example_world(), method_world()
        with one.trial(), other.trial():
            one.define("z")
            other.define("z")
        self.assertEqual((one, other), (example_world(), method_world()))

    def test_a_trial_of_an_empty_world(self):
        world = World()
        with world.trial():
            world.define("a")
        self.assertEqual((world.names, len(world)), ((), 0))


if __name__ == "__main__":
    unittest.main()
