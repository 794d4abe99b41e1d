"""Points 13, 14, 16, 17 and the interface: calls, the first futures on which they end in some way, and Caller."""

import itertools
import random
import time
import unittest

from nextbehind.calls import Caller, call, call_class, first_refused, first_said, first_unsaid
from nextbehind.errors import BadFuture, BadName, BadNames, BadOptions, NoClass, NoMethod, TooMany, Twice, Unasked, Wanted
from nextbehind.world import World
from tests.cases import (
    LETTERS, METHOD, WorldCase, called_worlds, diamond, example_world, free_world, method_world, picture, subsets,
    torn_world, wide_world,
)
from tests.samples import no_names, no_tuples
from tests.words import all_futures, end_by_the_words, futures_by_the_words

BY = ("bye",)
OPTIONS = [(), ("o",), ("p", "q"), ("q", "o", "p"), ("z",)]


def world_with_methods(**methods):
    """Return a world of classes without bases, each with a method m."""
    world = World()
    for name, method in methods.items():
        world.define(name, m=method)
    return world


def no_options():
    """Return values that are not options, whatever their kind."""
    return [*no_tuples(), *[(thing,) for thing in no_names()], ("o", "o"), ("o", "p", "o"),
            ("o", None), ("o", "P"), (("o",),), (["o"],)]


class CallCase(WorldCase):
    def assert_end(self, world, future, method, options):
        """Check a call against the words of point 14, and return what the words say."""
        expected = end_by_the_words(world, future, method, options)
        if isinstance(expected, list):
            found = call(world, future, method, *options)
            self.assertIs(type(found), list)
            self.assertEqual(found, expected)
        else:
            self.assert_raises_fields(*expected, call, world, future, method, *options)
        return expected


class CallTest(CallCase):
    def test_examples(self):
        world = method_world()
        self.assertEqual(call(world, ("b", "a"), "m", "o"), ["yes", "hi", "bye"])
        self.assert_refused(world, Wanted, ("b", "o"), call, world, ("b", "a"), "m")

    def test_words_of_after_stand_in_turned_order(self):
        world = world_with_methods(
            a=((), ("one", "two"), (), ("three", "four")), b=((), ("five",), (), ("six", "seven")), c=((), (), (), ("eight",)))
        self.assertEqual(call(world, ("a", "b", "c"), "m"),
                         ["one", "two", "five", "eight", "six", "seven", "three", "four"])
        self.assertEqual(call(world, ("c", "a", "b"), "m"),
                         ["one", "two", "five", "six", "seven", "three", "four", "eight"])
        self.assertEqual(call(world, ("b",), "m"), ["five", "six", "seven"])

    def test_words_may_repeat(self):
        world = world_with_methods(a=((), ("hi", "hi"), (), ("hi",)), b=((), ("hi",), None, ()))
        self.assertEqual(call(world, ("a", "b"), "m"), ["hi"] * 4)
        self.assertEqual(call(world_with_methods(a=((), (), (), ())), ("a",), "m"), [])

    def test_a_stopper(self):
        world = world_with_methods(a=((), ("a",), (), ("end",)), s=(("o",), ("s", "s"), None, ()), b=((), ("b",), (), BY))
        self.assertEqual(call(world, ("s", "a", "b"), "m", "o"), ["s", "s"])
        self.assertEqual(call(world, ("a", "s", "b"), "m", "o"), ["a", "s", "s", "end"])
        self.assertEqual(call(world, ("a", "b", "s"), "m", "o"), ["a", "b", "s", "s", "bye", "end"])
        self.assert_refused(world, Unasked, (("p",),), call, world, ("a", "s", "b"), "m", "p", "o")
        self.assert_refused(world, Wanted, ("s", "o"), call, world, ("a", "s", "b"), "m", "p")
        self.assert_refused(world, Wanted, ("s", "o"), call, world, ("a", "b", "s"), "m")

    def test_behind_a_stopper_nothing_is_refused(self):
        world = world_with_methods(s=((), (), None, ()), a=(("o",), (), (), ()), b=((), (), ("o", "p"), ()))
        self.assertEqual(call(world, ("s", "a", "b"), "m"), [])

    def test_classes_without_the_method_are_passed_over(self):
        world = World()
        world.define("a", m=((), ("hi",), (), BY), q=((), ("no",), None, ()))
        world.define("b")
        world.define("c", q=((), (), None, ()))
        world.define("d", m=((), ("oh",), (), ()))
        for future in itertools.permutations("abcd"):
            words = ["hi", "oh", "bye"] if future.index("a") < future.index("d") else ["oh", "hi", "bye"]
            self.assertEqual(call(world, future, "m"), words)

    def test_wanted(self):
        world = world_with_methods(a=(("o", "p", "q"), (), (), ()), b=(("o",), (), (), ()))
        for options, option in (((), "o"), (("o",), "p"), (("q", "o"), "p"), (("p", "o"), "q"), (("z",), "o")):
            self.assert_refused(world, Wanted, ("a", option), call, world, ("a", "b"), "m", *options)
        # What the first class takes is not left for the second one.
        self.assert_refused(world, Wanted, ("b", "o"), call, world, ("a", "b"), "m", "o", "p", "q")
        self.assert_refused(world, Wanted, ("a", "o"), call, world, ("b", "a"), "m", "o", "p", "q")
        self.assertEqual(call(world, ("a",), "m", "q", "p", "o"), [])

    def test_twice(self):
        world = world_with_methods(a=((), (), ("o", "p"), ()), b=((), (), ("p",), ()), c=(("p", "o"), (), None, ()))
        self.assert_refused(world, Twice, ("b", "p"), call, world, ("a", "b", "c"), "m")
        self.assert_refused(world, Twice, ("a", "p"), call, world, ("b", "a", "c"), "m")
        self.assert_refused(world, Twice, ("a", "o"), call, world, ("a", "c"), "m", "p", "o")
        self.assert_refused(world, Twice, ("a", "p"), call, world, ("a", "c"), "m", "p")
        self.assertEqual(call(world, ("a", "c", "b"), "m"), [])

    def test_an_option_may_be_taken_and_added_again(self):
        world = world_with_methods(a=(("o",), ("a",), ("o",), ()), b=(("o",), ("b",), ("p", "o"), ()), c=(("o", "p"), (), (), BY))
        self.assertEqual(call(world, ("a", "b", "c"), "m", "o"), ["a", "b", "bye"])
        self.assert_refused(world, Unasked, (("o",),), call, world, ("a",), "m", "o")
        self.assert_refused(world, Twice, ("b", "p"), call, world, ("b", "c"), "m", "o", "p")

    def test_unasked(self):
        world = world_with_methods(a=(("o",), ("hi",), ("z", "b"), ()), s=((), (), None, ()))
        self.assert_refused(world, Unasked, (("b", "z"),), call, world, ("a",), "m", "o")
        self.assert_refused(world, Unasked, (("aa", "b", "y", "z"),), call, world, ("a",), "m", "y", "o", "aa")
        self.assert_refused(world, Unasked, (("b", "z"),), call, world, ("a", "s"), "m", "o")
        self.assert_refused(world, Unasked, (("a", "b", "c"),), call, world, ("s", "a"), "m", "c", "a", "b")

    def test_the_first_refusal_counts(self):
        world = world_with_methods(a=(("o",), (), ("p",), ()), b=(("q",), (), ("p",), ()))
        self.assert_refused(world, Wanted, ("b", "q"), call, world, ("a", "b"), "m", "o")
        self.assert_refused(world, Wanted, ("a", "o"), call, world, ("a", "b"), "m", "p")
        self.assert_refused(world, Twice, ("a", "p"), call, world, ("a", "b"), "m", "p", "o")

    def test_no_method(self):
        world = diamond()
        world.define("e", m=METHOD)
        for future in ((), ("a",), ("d", "b", "c", "a")):
            self.assert_refused(world, NoMethod, (None, "m"), call, world, future, "m")
            self.assert_refused(world, NoMethod, (None, "m"), call, world, future, "m", "o")
        self.assert_refused(world, NoMethod, (None, "q"), call, world, ("e",), "q")
        self.assert_refused(World(), NoMethod, (None, "m"), call, World(), (), "m")
        self.assertEqual(call(world, ("b", "e", "a"), "m"), ["hi", "bye"])

    def test_against_the_words(self):
        kinds = {}
        for world in called_worlds(41, 30, 5):
            for future in all_futures(world)[::2]:
                for options in OPTIONS:
                    end = self.assert_end(world, future, "m", options)
                    kind = list if isinstance(end, list) else end[0]
                    kinds[kind] = kinds.get(kind, 0) + 1
        self.assertEqual(set(kinds), {list, Wanted, Twice, Unasked, NoMethod})
        self.assertGreater(min(kinds.values()), 50)

    def test_24_classes(self):
        world = World()
        for name in LETTERS[:24]:
            world.define(name, m=(("o",), (name,), ("o",), ("x" + name,)))
        world.perform(("remove", "x"), ("define", "x", (), {"m": (("o",), (), (), ())}))
        names = LETTERS[:24]
        self.assertEqual(call(world, tuple(names), "m", "o"), [*names[:23], *["x" + name for name in names[:23][::-1]]])

    def test_the_list_is_new(self):
        world = method_world()
        found = call(world, ("a",), "m")
        found.append("more")
        self.assertEqual(call(world, ("a",), "m"), ["hi", "bye"])
        self.assertEqual(picture(world), picture(method_world()))


class CallRefusedTest(WorldCase):
    def test_the_future(self):
        world = method_world()
        for thing in [*no_tuples(), *no_names(), ("b",), ("a", "b"), ("z",), ["b", "a"], ("b", "a", "a")]:
            if thing not in ((), ("a",)):
                with self.subTest(repr(thing)[:40]):
                    self.assert_refused(world, BadFuture, None, call, world, thing, "m")
                    self.assert_refused(world, BadFuture, None, call, world, thing, "M", "o", "o")

    def test_the_method(self):
        world = method_world()
        for thing in no_names():
            with self.subTest(repr(thing)[:40]):
                self.assert_refused(world, BadName, None, call, world, ("b", "a"), thing)
                self.assert_refused(world, BadName, None, call, world, (), thing, "o", "o")
                self.assert_refused(world, BadName, None, call_class, world, "b", thing, None)
                self.assert_refused(world, BadName, None, Caller, world, thing)

    def test_the_options(self):
        world = method_world()
        for thing in no_names():
            with self.subTest(repr(thing)[:40]):
                self.assert_refused(world, BadOptions, None, call, world, ("b", "a"), "m", thing)
                self.assert_refused(world, BadOptions, None, call, world, ("b", "a"), "q", "o", thing)
                self.assert_refused(world, BadOptions, None, call_class, world, "a", "q", thing, "o")
        for options in (("o", "o"), ("o", "p", "o"), (("o",),)):
            self.assert_refused(world, BadOptions, None, call, world, ("b", "a"), "m", *options)
            self.assert_refused(world, BadOptions, None, call, world, (), "q", *options)
            self.assert_refused(world, BadOptions, None, call_class, world, "b", "q", *options)

    def test_the_class(self):
        world = method_world()
        for thing in no_names():
            with self.subTest(repr(thing)[:40]):
                self.assert_refused(world, BadName, None, call_class, world, thing, "m")
                self.assert_refused(world, BadName, None, call_class, world, thing, None, "o", "o")
                self.assert_refused(world, NoClass, ("z",), call_class, world, "z", thing, thing)
        self.assert_refused(world, NoClass, ("z",), call_class, world, "z", "m")
        self.assert_refused(world, NoMethod, (None, "q"), call_class, world, "b", "q", "o")
        self.assert_refused(world, Wanted, ("b", "o"), call_class, world, "b", "m")

    def test_by_name(self):
        world = method_world()
        self.assertEqual(call(world=world, future=("a",), method="m"), ["hi", "bye"])
        self.assertEqual(call_class(world=world, name="a", method="m"), ["hi", "bye"])


class CallClassTest(WorldCase):
    def test_example(self):
        self.assertEqual(call_class(method_world(), "a", "m"), ["hi", "bye"])
        self.assertEqual(call_class(method_world(), "b", "m", "o"), ["yes", "hi", "bye"])

    def test_as_on_the_linearization(self):
        for world in called_worlds(42, 30, 7):
            for name in world.names:
                for options in OPTIONS:
                    expected = end_by_the_words(world, world[name].linearization, "m", options)
                    if isinstance(expected, list):
                        found = call_class(world, name, "m", *options)
                        self.assertEqual((type(found), found), (list, expected))
                    else:
                        self.assert_raises_fields(*expected, call_class, world, name, "m", *options)


class FirstTest(WorldCase):
    def assert_first(self, world, method, options, names, words=("hi", "no", "bye")):
        """Check all three functions against a search through all futures."""
        ends = {future: end_by_the_words(world, future, method, options) for future in futures_by_the_words(world, names)}
        refused = [future for future in ends if not isinstance(ends[future], list)]
        kinds = [bool(refused)]
        self.assertEqual(first_refused(world, method, options, *names), refused[0] if refused else None)
        for word in words:
            said = [future for future in ends if isinstance(ends[future], list) and word in ends[future]]
            unsaid = [future for future in ends if isinstance(ends[future], list) and word not in ends[future]]
            self.assertEqual(first_said(world, word, method, options, *names), said[0] if said else None)
            self.assertEqual(first_unsaid(world, word, method, options, *names), unsaid[0] if unsaid else None)
            kinds += [bool(said), bool(unsaid)]
        return kinds

    def test_examples(self):
        world = method_world()
        self.assert_tuple(first_refused(world, "m", (), "b"), ("b", "a"))
        self.assert_tuple(first_said(world, "hi", "m", ("o",), "b"), ("b", "a"))
        self.assertIsNone(first_unsaid(world, "hi", "m", ("o",), "b"))
        self.assertIsNone(first_refused(world, "m", ("o",), "b"))

    def test_small_worlds_against_the_words(self):
        kinds = []
        for world in called_worlds(43, 25, 6):
            for names in [*subsets(world.names, 2), world.names, world.names[::-1]]:
                if any("m" in world[name].methods for future in futures_by_the_words(world, names)[:1] for name in future):
                    for options in OPTIONS[:4]:
                        kinds.append(self.assert_first(world, "m", options, names))
        for found in zip(*kinds):
            self.assertGreater(min(found.count(True), found.count(False)), 5)

    def test_larger_closures_against_the_words(self):
        source = random.Random(44)
        for _ in range(8):
            world = World()
            for at, name in enumerate(source.sample(LETTERS, 7)):
                takes = tuple(source.sample("op", source.randint(0, 1)))
                passes = source.choice([(), (), takes, tuple(source.sample("op", 1)), None])
                after = () if passes is None else tuple(source.sample(["hi", "bye"], 1))
                methods = {"m": (takes, tuple(source.sample(["hi", "no"], 1)), passes, after)} if at % 4 else {}
                bases = source.sample(world.names, 1) if at == 5 else ()
                world.define(name, *bases, **methods)
            for options in ((), ("o",), ("o", "p")):
                self.assert_first(world, "m", options, world.names)

    def test_the_first_in_the_order_of_definition(self):
        world = world_with_methods(z=((), ("z",), None, ()), y=((), ("y",), None, ()), a=((), ("a",), None, ()))
        for names in itertools.permutations("zya"):
            self.assertEqual(first_said(world, "a", "m", (), *names), ("a", "z", "y"))
            self.assertEqual(first_said(world, "y", "m", (), *names), ("y", "z", "a"))
            self.assertEqual(first_unsaid(world, "z", "m", (), *names), ("y", "z", "a"))
            self.assertEqual(first_refused(world, "m", ("o",), *names), ("z", "y", "a"))
            self.assertIsNone(first_refused(world, "m", (), *names))
            self.assertIsNone(first_said(world, "x", "m", (), *names))

    def test_a_refusal_deep_in_a_future(self):
        world = world_with_methods(a=((), (), ("o",), ()), b=(("o",), (), (), ()), c=((), ("c",), (), ()))
        self.assertIsNone(first_refused(world, "m", (), "c"))
        self.assertEqual(first_refused(world, "m", (), "a", "b", "c"), ("b", "a", "c"))
        self.assertEqual(first_refused(world, "m", (), "a", "c"), ("a", "c"))
        self.assertEqual(first_said(world, "c", "m", (), "a", "b", "c"), ("a", "b", "c"))

    def test_words_of_after_are_said_too(self):
        world = world_with_methods(a=((), (), (), ("late",)), s=((), ("stop",), None, ()))
        self.assertEqual(first_said(world, "late", "m", (), "s", "a"), ("a", "s"))
        self.assertEqual(first_unsaid(world, "late", "m", (), "a", "s"), ("s", "a"))

    def test_a_refused_call_says_nothing(self):
        world = world_with_methods(a=((), ("hi",), (), ()))
        self.assertIsNone(first_said(world, "hi", "m", ("o",), "a"))
        self.assertIsNone(first_unsaid(world, "no", "m", ("o",), "a"))
        self.assertEqual(first_refused(world, "m", ("o",), "a"), ("a",))

    def test_classes_that_cannot_be_joined(self):
        world = torn_world()
        world.perform(("remove", "f"), ("remove", "d"), ("define", "d", ("a", "b"), {"m": METHOD}))
        self.assertEqual(first_refused(world, "m", ("o",), "d"), ("d", "a", "b"))
        self.assertIsNone(first_refused(world, "m", ("o",), "d", "e"))
        self.assertIsNone(first_said(world, "hi", "m", (), "e", "d"))
        self.assertIsNone(first_unsaid(world, "no", "m", (), "e", "d"))

    def test_nine_and_ten_classes_without_bases_soon(self):
        for many in (9, 10):
            names = LETTERS[:many]
            began = time.monotonic()
            plain = world_with_methods(**{name: ((), (name,), (), BY) for name in names})
            self.assertIsNone(first_refused(plain, "m", (), *names))
            self.assertEqual(first_refused(plain, "m", ("o",), *names), tuple(names))
            self.assertIsNone(first_said(plain, "zz", "m", (), *names))
            self.assertIsNone(first_said(plain, "a", "m", ("o",), *names))
            self.assertIsNone(first_unsaid(plain, "bye", "m", (), *names))
            self.assertEqual(first_unsaid(plain, "zz", "m", (), *names), tuple(names))
            # Each class takes what the one behind it in the alphabet adds: so the only order is the last one.
            rows = {name: ((f"o{after}",), (), (f"o{name}",), ()) for name, after in zip(names, names[1:] + "z")}
            rows["a"] = (("ob",), ("end",), (), ())
            chain = world_with_methods(**rows)
            self.assertEqual(first_said(chain, "end", "m", ("oz",), *names), tuple(names[::-1]))
            self.assertEqual(first_unsaid(chain, "x", "m", ("oz",), *names), tuple(names[::-1]))
            self.assertIsNone(first_unsaid(chain, "end", "m", ("oz",), *names))
            self.assertEqual(first_refused(chain, "m", ("oz",), *names), tuple(names))
            stoppers = world_with_methods(**{name: ((), (name,), None, ()) for name in names})
            self.assertEqual(first_said(stoppers, names[-1], "m", (), *names), (names[-1], *names[:-1]))
            self.assertIsNone(first_refused(stoppers, "m", (), *names))
            self.assertLess(time.monotonic() - began, 5)

    def test_many_options_soon(self):
        names = LETTERS[:9]
        world = world_with_methods(**{name: ((), (name,), (), BY) for name in names})
        options = tuple("x" + one + two + three for one in LETTERS[:8] for two in LETTERS for three in LETTERS)
        began = time.monotonic()
        self.assertIsNone(first_said(world, "a", "m", options, *names))
        self.assertEqual(first_refused(world, "m", options, *names), tuple(names))
        self.assertLess(time.monotonic() - began, 5)


class FirstRefusedTest(WorldCase):
    def functions(self, world):
        return (
            lambda method, options, *names: first_refused(world, method, options, *names),
            lambda method, options, *names: first_said(world, "hi", method, options, *names),
            lambda method, options, *names: first_unsaid(world, "hi", method, options, *names),
        )

    def refuse(self, world, kind, fields, *values):
        for function in self.functions(world):
            self.assert_refused(world, kind, fields, function, *values)

    def test_the_word(self):
        world = method_world()
        for thing in no_names():
            with self.subTest(repr(thing)[:40]):
                for function in (first_said, first_unsaid):
                    self.assert_refused(world, BadName, None, function, world, thing, "m", (), "b")
                    self.assert_refused(world, BadName, None, function, world, thing, "m", None)
        self.assert_refused(world, BadOptions, None, first_said, world, "hi", "m", None, "z")

    def test_the_method(self):
        world = method_world()
        for thing in no_names():
            with self.subTest(repr(thing)[:40]):
                self.refuse(world, BadName, None, thing, (), "b")
                self.refuse(world, BadName, None, thing, ["o"])

    def test_the_options(self):
        world = method_world()
        for thing in no_options():
            with self.subTest(repr(thing)[:40]):
                self.refuse(world, BadOptions, None, "m", thing, "b")
                self.refuse(world, BadOptions, None, "q", thing)
                self.refuse(world, BadOptions, None, "q", thing, "A", "A")

    def test_the_names(self):
        world = method_world()
        self.refuse(world, BadNames, None, "m", ())
        self.refuse(world, BadNames, None, "q", ("o",))
        for thing in no_names():
            with self.subTest(repr(thing)[:40]):
                self.refuse(world, BadName, None, "m", (), thing)
                self.refuse(world, BadName, None, "q", (), "z", "a", "a", thing)
        self.refuse(world, BadNames, None, "q", (), "b", "b")
        self.refuse(world, BadNames, None, "m", (), "z", "z")
        self.refuse(world, NoClass, ("z",), "q", (), "a", "z", "y")

    def test_eleven_classes(self):
        world = wide_world()
        names = tuple(LETTERS[:11])
        for method in ("m", "q"):
            self.refuse(world, TooMany, (10,), method, (), "l")
            self.refuse(world, TooMany, (10,), method, ("o",), "j", "k")
            self.refuse(world, TooMany, (10,), method, (), *names)
            self.refuse(world, NoMethod, (None, method), method, (), "n", "j")
        self.refuse(world, BadOptions, None, "m", None, "l")
        self.refuse(world, NoClass, ("z",), "m", (), *names, "z")
        self.refuse(free_world(24), TooMany, (10,), "m", (), *LETTERS[:24])

    def test_no_method(self):
        world = example_world()
        world.define("d", m=METHOD)
        self.refuse(world, NoMethod, (None, "m"), "m", (), "b", "c")
        self.refuse(world, NoMethod, (None, "q"), "q", ("o",), "d")
        self.refuse(torn_world(), NoMethod, (None, "m"), "m", (), "d", "e")

    def test_a_method_of_an_ancestor_alone(self):
        world = World()
        world.define("a", m=METHOD)
        world.define("b", "a")
        self.assertEqual(first_said(world, "hi", "m", (), "b"), ("b", "a"))
        self.assertEqual(first_refused(world, "m", ("o",), "b"), ("b", "a"))

    def test_by_name(self):
        world = method_world()
        self.assert_raises_fields(BadNames, None, first_refused, world=world, method="m", options=())
        self.assert_raises_fields(BadNames, None, first_said, world=world, word="hi", method="m", options=())
        self.assert_raises_fields(BadNames, None, first_unsaid, world=world, word="hi", method="m", options=())


class CallerTest(WorldCase):
    def test_example(self):
        caller = Caller(method_world(), "m")
        words = caller(("b", "a"), ("o",))
        self.assertEqual((words, caller.on("a"), caller.many), (["yes", "hi", "bye"], ["hi", "bye"], 2))

    def test_what_many_counts(self):
        caller = Caller(method_world(), "m")
        self.assertEqual(caller.many, 0)
        self.assertEqual(caller(("a",)), ["hi", "bye"])
        self.assertEqual(caller.many, 1)
        self.assertEqual(caller.many, 1)
        for kind, fields, values in ((Wanted, ("b", "o"), (("b", "a"),)), (Unasked, (("p",),), (("a",), ("p",))),
                                     (BadFuture, None, (("b",),)), (BadOptions, None, (("a",), ["o"])),
                                     (NoMethod, (None, "m"), ((),))):
            self.assert_raises_fields(kind, fields, caller, *values)
            self.assertEqual(caller.many, 1)
        for kind, fields, values in ((Wanted, ("b", "o"), ("b",)), (Unasked, (("p",),), ("a", "p")),
                                     (BadName, None, (1,)), (NoClass, ("z",), ("z",)), (BadOptions, None, ("a", "o", "o"))):
            self.assert_raises_fields(kind, fields, caller.on, *values)
            self.assertEqual(caller.many, 1)
        self.assertEqual(caller.on("b", "o"), ["yes", "hi", "bye"])
        self.assertEqual(caller(("b", "a"), ("o",)), ["yes", "hi", "bye"])
        self.assertEqual(caller.many, 3)
        self.assertRaises(AttributeError, setattr, caller, "many", 7)

    def test_other_calls_are_not_counted(self):
        world = method_world()
        one, other = Caller(world, "m"), Caller(world, "m")
        call(world, ("a",), "m")
        call_class(world, "a", "m")
        one(("a",))
        self.assertEqual((one.many, other.many), (1, 0))

    def test_behind_changes_of_the_world(self):
        world = method_world()
        caller = Caller(world, "m")
        self.assertEqual(caller.on("a"), ["hi", "bye"])
        world["b"].bases = ()
        self.assertEqual(caller(("b",), ("o",)), ["yes"])
        self.assertEqual(caller.on("b", "o"), ["yes"])
        world.remove("a")
        self.assert_raises_fields(NoClass, ("a",), caller.on, "a")
        self.assert_raises_fields(BadFuture, None, caller, ("a",))
        world.define("a", m=((), ("new",), None, ()))
        self.assertEqual(caller(("a",)), ["new"])
        with world.trial():
            world.remove("a")
            world.define("a")
            self.assert_raises_fields(NoMethod, (None, "m"), caller, ("a",))
        self.assertEqual(caller.on("a"), ["new"])
        self.assertEqual(caller.many, 5)

    def test_a_method_that_no_class_has_yet(self):
        world = World()
        caller = Caller(world, "talk")
        self.assert_raises_fields(NoMethod, (None, "talk"), caller, ())
        world.define("a", talk=METHOD)
        self.assertEqual((caller(("a",)), caller.many), (["hi", "bye"], 1))

    def test_wrong_options(self):
        world = method_world()
        caller = Caller(world, "m")
        for thing in no_options():
            with self.subTest(repr(thing)[:40]):
                self.assert_refused(world, BadOptions, None, caller, ("b", "a"), thing)
                self.assert_refused(world, BadOptions, None, caller, (), thing)
                self.assert_refused(world, BadFuture, None, caller, ("b",), thing)
        self.assertEqual(caller.many, 0)

    def test_wrong_classes(self):
        world = method_world()
        caller = Caller(world, "q")
        for thing in no_names():
            with self.subTest(repr(thing)[:40]):
                self.assert_refused(world, BadName, None, caller.on, thing, "o", "o")
                self.assert_refused(world, BadOptions, None, caller.on, "a", thing)
                self.assert_refused(world, NoClass, ("z",), caller.on, "z", thing)
        self.assert_refused(world, NoMethod, (None, "q"), caller.on, "b", "o")

    def test_against_the_words(self):
        for world in called_worlds(45, 10, 5):
            caller = Caller(world, "m")
            many = 0
            for future in all_futures(world)[::3]:
                for options in OPTIONS:
                    expected = end_by_the_words(world, future, "m", options)
                    if isinstance(expected, list):
                        self.assertEqual(caller(future, options), expected)
                        many += 1
                    else:
                        self.assert_raises_fields(*expected, caller, future, options)
                    self.assertEqual(caller.many, many)

    def test_by_name(self):
        caller = Caller(world=method_world(), method="m")
        self.assertEqual(caller(future=("b", "a"), options=("o",)), ["yes", "hi", "bye"])
        self.assertEqual(caller(future=("a",)), ["hi", "bye"])
        self.assertEqual(caller.on(name="a"), ["hi", "bye"])
        self.assertEqual(caller.many, 3)


if __name__ == "__main__":
    unittest.main()
