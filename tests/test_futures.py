"""Points 9, 10, 17 and the interface: closure, futures, and the orders of bases."""

import itertools
import time
import unittest

from nextbehind.errors import BadFuture, BadIndex, BadName, BadNames, Clash, NoClass, TooMany
from nextbehind.futures import base_orders, closure, count, futures, is_future, nth, place
from nextbehind.world import World
from tests.cases import (
    LETTERS, METHOD, WorldCase, diamond, example_world, free_world, picture, possible, some_worlds, subsets,
    torn_world, wide_world, world_of,
)
from tests.samples import no_names, no_tuples
from tests.words import closure_by_the_words, futures_by_the_words, is_future_by_the_words


class ClosureTest(WorldCase):
    def test_example(self):
        self.assert_tuple(closure(example_world(), "c", "b"), ("a", "b", "c"))

    def test_order_of_definition(self):
        world = world_of("z", "m z", "a", "k m a", "b k", "y")
        self.assert_tuple(closure(world, "b"), ("z", "m", "a", "k", "b"))
        self.assertEqual(closure(world, "y", "m"), ("z", "m", "y"))
        self.assertEqual(closure(world, "z"), ("z",))

    def test_by_the_words(self):
        for world in [diamond(), torn_world(), wide_world(), *some_worlds(11, 10, 6)]:
            for names in subsets(world.names[-6:], 3):
                self.assert_tuple(closure(world, *names), closure_by_the_words(world, names))

    def test_more_than_ten_classes(self):
        world = wide_world()
        self.assertEqual(len(closure(world, *world.names)), 14)
        self.assertEqual(closure(free_world(24), *reversed(LETTERS[:24])), tuple(LETTERS[:24]))

    def test_by_name(self):
        self.assert_raises_fields(BadNames, None, closure, world=example_world())

    def test_the_world_stays_as_it_is(self):
        world = diamond()
        ahead = picture(world)
        closure(world, "d")
        self.assertEqual(list(futures(world, "d")), [("d", "b", "c", "a")])
        list(base_orders(world, "a", "b"))
        self.assertEqual(picture(world), ahead)


class IsFutureTest(WorldCase):
    def test_example(self):
        world = example_world()
        self.assertIs(is_future(world, ("c", "b")), False)
        self.assertIs(is_future(world=world, thing=("c", "b", "a")), True)

    def test_the_empty_tuple(self):
        self.assertIs(is_future(World(), ()), True)
        self.assertIs(is_future(diamond(), ()), True)

    def test_all_tuples_of_small_worlds(self):
        for world in [example_world(), diamond(), world_of("a", "b", "c a b", "d b a"), *some_worlds(12, 8, 5)]:
            found = 0
            for many in range(len(world) + 1):
                for names in itertools.permutations(world.names, many):
                    expected = is_future_by_the_words(world, names)
                    self.assertIs(is_future(world, names), expected, names)
                    found += expected
            self.assertGreater(found, 1)

    def test_other_classes_between(self):
        world = world_of("a", "b", "c", "x a b")
        self.assertIs(is_future(world, ("x", "a", "b")), True)
        self.assertIs(is_future(world, ("c", "x", "a", "b")), True)
        self.assertIs(is_future(world, ("x", "a", "c", "b")), True)
        self.assertIs(is_future(world, ("x", "b", "a")), False)
        self.assertIs(is_future(world, ("a", "x", "b")), False)
        self.assertIs(is_future(world, ("x", "a")), False)
        self.assertIs(is_future(world, ("b", "a")), True)

    def test_linearizations_are_futures(self):
        for world in some_worlds(13, 20, 10):
            for line in world.linearizations.values():
                self.assertIs(is_future(world, line), True)

    def test_what_is_not_a_future(self):
        world = example_world()
        for thing in [*no_names(), *no_tuples()]:
            if thing != ():
                with self.subTest(repr(thing)[:40]):
                    if thing != ("a",):
                        self.assertIs(is_future(world, thing), False)
                    self.assertIs(is_future(world, (thing, "a")), False)
                    self.assertIs(is_future(world, ("b", "a", thing)), False)
        for thing in [("z",), ("a", "z"), ("a", "a"), ("b", "a", "b"), ("b", "a", "a"), ["b", "a"], "a", "ba",
                      ("b", "a") * 100, (("b", "a"),), {"b": 1, "a": 2}, tuple(LETTERS)]:
            self.assertIs(is_future(world, thing), False)

    def test_the_world_as_it_is_now(self):
        world = example_world()
        self.assertIs(is_future(world, ("b",)), False)
        world["b"].bases = ()
        self.assertIs(is_future(world, ("b",)), True)
        world.remove("b")
        self.assertIs(is_future(world, ("b",)), False)


class FuturesTest(WorldCase):
    def assert_like_the_words(self, world, names):
        expected = futures_by_the_words(world, names)
        found = list(futures(world, *names))
        self.assertEqual(found, expected)
        self.assertEqual({type(future) for future in found}, {tuple} if found else set())
        self.assertEqual(count(world, *names), len(expected))
        for index, future in enumerate(expected):
            self.assert_tuple(nth(world, index, *names), future)
            self.assertEqual(place(world, future, *names), index)
            self.assertTrue(is_future(world, future))
        for index in (-1, -len(expected), len(expected), len(expected) + 1):
            if index != 0 or not expected:
                self.assert_raises_fields(BadIndex, None, nth, world, index, *names)

    def test_examples(self):
        world = example_world()
        self.assertEqual(list(futures(world, "b", "c")), [("b", "c", "a"), ("c", "b", "a")])
        self.assertEqual(count(world, "b", "c"), 2)
        self.assertEqual(nth(world, 1, "b", "c"), ("c", "b", "a"))
        self.assertEqual(place(world, ("c", "b", "a"), "b", "c"), 1)

    def test_small_worlds_against_the_words(self):
        worlds = [example_world(), diamond(), torn_world(), free_world(4), world_of("a", "b", "c", "x a c", "y b c")]
        for world in worlds + some_worlds(14, 10, 6):
            for names in subsets(world.names, 3):
                self.assert_like_the_words(world, names)

    def test_larger_closures_against_the_words(self):
        self.assert_like_the_words(free_world(6), tuple("cafebd"))
        self.assert_like_the_words(world_of("a", "b", "c", "d", "x b a", "y d c", "z c"), tuple("xyz"))
        self.assert_like_the_words(world_of("o", "a o", "b o", "c o", "d o", "e o"), tuple("abcde"))

    def test_lexicographic_order_is_that_of_definition(self):
        world = world_of("z", "y", "x")
        self.assertEqual(list(futures(world, "x", "y", "z")),
                         [tuple("zyx"), tuple("zxy"), tuple("yzx"), tuple("yxz"), tuple("xzy"), tuple("xyz")])
        self.assertEqual(nth(world, 2, "x", "z", "y"), ("y", "z", "x"))

    def test_order_of_the_arguments(self):
        world = world_of("a", "b", "c a", "d", "e b d")
        expected = list(futures(world, "a", "c", "e"))
        self.assertGreater(len(expected), 5)
        for names in itertools.permutations(("a", "c", "e")):
            self.assertEqual(list(futures(world, *names)), expected)
            self.assertEqual(count(world, *names), len(expected))
            self.assertEqual(nth(world, 3, *names), expected[3])
            self.assertEqual(place(world, expected[4], *names), 4)
        # Ancestors that are named, too, change nothing.
        self.assertEqual(list(futures(world, "c", "e")), expected)

    def test_classes_that_cannot_be_joined(self):
        world = torn_world()
        for names in (("d", "e"), ("e", "d"), ("d", "c", "e"), ("f", "e"), ("a", "e", "b", "d")):
            self.assertEqual(list(futures(world, *names)), [])
            self.assertEqual(count(world, *names), 0)
            for index in (0, 1, -1):
                self.assert_raises_fields(BadIndex, None, nth, world, index, *names)
            self.assert_raises_fields(BadFuture, None, place, world, ("d", "a", "b"), *names)
        self.assertEqual(list(futures(world, "d")), [("d", "a", "b")])

    def test_three_classes_of_which_each_two_can_be_joined(self):
        world = world_of("a", "b", "c", "x a b", "y b c", "z c a")
        for names in (("x", "y"), ("y", "z"), ("x", "z")):
            self.assertGreater(count(world, *names), 0)
        self.assertEqual((list(futures(world, "x", "y", "z")), count(world, "z", "x", "y")), ([], 0))

    def test_ten_free_classes(self):
        world = free_world(10)
        names = tuple(LETTERS[:10])
        began = time.monotonic()
        first = list(itertools.islice(futures(world, *names), 3))
        self.assertEqual(first, [names, names[:8] + ("j", "i"), names[:7] + ("i", "h", "j")])
        self.assertEqual(count(world, *names), 3628800)
        self.assertEqual(nth(world, 3628799, *names), names[::-1])
        self.assertEqual(nth(world, 362880, *names), ("b", "a") + names[2:])
        self.assertEqual(place(world, names[::-1], *names), 3628799)
        self.assertEqual(place(world, ("b", "a") + names[2:], *names), 362880)
        self.assert_raises_fields(BadIndex, None, nth, world, 3628800, *names)
        for index in (1, 1000000, 2345678, 3628798):
            self.assertEqual(place(world, nth(world, index, *names), *names), index)
        self.assertLess(time.monotonic() - began, 5)

    def test_ten_classes_with_few_futures(self):
        # The only future is the last order of all.
        world = world_of("a", *[f"{name} {before}" for before, name in zip(LETTERS, LETTERS[1:10])])
        began = time.monotonic()
        self.assertEqual(list(futures(world, "a", "j")), [tuple(reversed(LETTERS[:10]))])
        self.assertEqual(count(world, "j"), 1)
        self.assertEqual(nth(world, 0, "j"), tuple(reversed(LETTERS[:10])))
        world = world_of(*LETTERS[:6], "x a b c d e f", "y f e d c b a", "z")
        self.assertEqual(list(futures(world, "x", "y", "z")), [])
        self.assertLess(time.monotonic() - began, 5)

    def test_ten_classes_and_eleven(self):
        world = wide_world()
        self.assertEqual(len(closure(world, "j", "k")), 11)
        for names in (("l",), ("j", "k"), ("k", "j"), tuple(LETTERS[:11])):
            for function in (lambda *names: next(futures(world, *names)), lambda *names: count(world, *names),
                             lambda *names: nth(world, 0, *names), lambda *names: nth(world, None, *names),
                             lambda *names: place(world, ("a",), *names), lambda *names: place(world, (), *names)):
                self.assert_refused(world, TooMany, (10,), function, *names)
        self.assertEqual(len(closure(world, "n", "j")), 10)
        self.assertEqual(len(next(futures(world, "n", "j"))), 10)
        self.assertEqual(count(world, "n", "j"), 210)
        self.assertEqual(place(world, nth(world, 5, "n", "j"), "n", "j"), 5)

    def test_too_many_ahead_of_what_comes_last(self):
        world = world_of(*LETTERS[:9], "x a b", "y b a")
        names = (*LETTERS[:9], "x", "y")
        self.assert_refused(world, TooMany, (10,), count, world, *names)
        self.assert_refused(world, TooMany, (10,), nth, world, -1, *names)
        self.assert_refused(world, TooMany, (10,), place, world, ("a",), *names)
        self.assert_refused(world, TooMany, (10,), lambda: next(futures(world, *names)))


class WrongNamesTest(WorldCase):
    def functions(self, world):
        return (
            lambda *names: closure(world, *names),
            lambda *names: next(futures(world, *names)),
            lambda *names: count(world, *names),
            lambda *names: nth(world, -1, *names),
            lambda *names: place(world, (), *names),
        )

    def refuse(self, world, kind, fields, *names):
        """All functions of names refuse the same."""
        for function in self.functions(world):
            self.assert_refused(world, kind, fields, function, *names)
        if names:
            self.assert_refused(world, kind, fields, lambda: next(base_orders(world, *names)))

    def test_bad_name(self):
        world = example_world()
        for thing in no_names():
            with self.subTest(repr(thing)[:40]):
                self.refuse(world, BadName, None, thing)
                self.refuse(world, BadName, None, "z", "a", "a", thing)
        self.refuse(world, BadName, None, ("b", "c"))

    def test_no_names(self):
        self.refuse(example_world(), BadNames, None)
        self.refuse(World(), BadNames, None)

    def test_names_that_are_not_different(self):
        world = example_world()
        self.refuse(world, BadNames, None, "b", "b")
        self.refuse(world, BadNames, None, "a", "b", "c", "a")
        self.refuse(world, BadNames, None, "z", "y", "z")

    def test_no_class(self):
        world = example_world()
        self.refuse(world, NoClass, ("z",), "z")
        self.refuse(world, NoClass, ("z",), "a", "z", "y", "c")
        self.refuse(World(), NoClass, ("b",), "b", "a")

    def test_ahead_of_the_other_errors(self):
        world = free_world(12)
        names = tuple(LETTERS[:12])
        self.refuse(world, BadName, None, *names, "Z", "a")
        self.refuse(world, BadNames, None, *names, "z", "a")
        self.refuse(world, NoClass, ("z",), *names, "z", "y")


class IndexTest(WorldCase):
    def test_wrong_indexes(self):
        world = example_world()
        for index in [-1, -2, 2, 3, 10 ** 999, -10 ** 999, True, False, None, "0", "", 0.0, 1.0, (), (0,), [0], {}, b"0"]:
            with self.subTest(repr(index)[:40]):
                self.assert_refused(world, BadIndex, None, nth, world, index, "b", "c")
        self.assertEqual(nth(world, 0, "b", "c"), ("b", "c", "a"))

    def test_by_name(self):
        self.assert_raises_fields(BadNames, None, nth, world=example_world(), index=0)
        self.assert_raises_fields(BadNames, None, place, world=example_world(), future=())
        self.assert_raises_fields(BadNames, None, count, world=example_world())


class PlaceTest(WorldCase):
    def refuse(self, world, kind, fields, future, *names):
        self.assert_refused(world, kind, fields, place, world, future, *names)

    def test_what_is_not_a_future(self):
        world = example_world()
        for thing in [*no_tuples(), *no_names(), ("z",), ("b",), ("a", "b"), ("b", "a", "c"), ["b", "c", "a"]]:
            if thing not in ((), ("a",)):
                with self.subTest(repr(thing)[:40]):
                    self.refuse(world, BadFuture, None, thing, "b", "c")

    def test_ahead_of_the_names(self):
        world = free_world(12)
        for names in ((), ("A",), ("a", "a"), ("z",), tuple(LETTERS[:12])):
            self.refuse(world, BadFuture, None, ("a", "a"), *names)
        self.refuse(world, BadNames, None, ("b", "a"))
        self.refuse(world, BadName, None, ("b", "a"), "A")
        self.refuse(world, BadNames, None, ("b", "a"), "a", "a")
        self.refuse(world, NoClass, ("z",), ("b", "a"), "z")
        self.refuse(world, TooMany, (10,), ("b", "a"), *LETTERS[:12])

    def test_futures_of_other_classes(self):
        world = diamond()
        for future in ((), ("a",), ("b", "a"), ("c", "a"), ("d", "b", "c", "a")):
            self.refuse(world, BadFuture, None, future, "b", "c")
        self.refuse(world, BadFuture, None, ("b", "c", "a"), "b")
        self.refuse(world, BadFuture, None, ("b", "c", "a"), "d")
        self.assertEqual(place(world, ("b", "c", "a"), "c", "b"), 0)


class BaseOrdersTest(WorldCase):
    def assert_like_define(self, world, names):
        expected = []
        ordered = [name for name in world.names if name in names]
        for order in itertools.permutations(ordered):
            try:
                expected.append((order, world.copy().define("new", *order)[1:]))
            except Clash:
                pass
        found = list(base_orders(world, *names))
        self.assertEqual(found, expected)
        for pair in found:
            self.assertEqual([type(part) for part in (pair, *pair)], [tuple] * 3)

    def test_example(self):
        self.assertEqual(list(base_orders(example_world(), "a", "b")), [(("b", "a"), ("b", "a"))])

    def test_no_names(self):
        for world in (World(), example_world(), free_world(24)):
            self.assertEqual(list(base_orders(world)), [((), ())])
        self.assertEqual(list(base_orders(world=World())), [((), ())])

    def test_small_worlds_against_define(self):
        for world in [example_world(), diamond(), torn_world(), *some_worlds(15, 10, 6)]:
            for names in subsets(world.names, 3):
                self.assert_like_define(world, names)
            self.assert_like_define(world, world.names)

    def test_larger_worlds_against_define(self):
        for world in some_worlds(16, 12, 14):
            self.assert_like_define(world, world.names[-5:])
            self.assert_like_define(world, world.names[4:9])

    def test_orders_that_other_classes_forbid(self):
        # Neither x nor y is an ancestor of the other, but their own ancestors stand in between.
        world = world_of("x", "y", "o", "p x o", "q o y", "r p q")
        self.assertEqual([order for order, _ in base_orders(world, "x", "y", "p", "q")],
                         [("p", "x", "q", "y"), ("p", "q", "x", "y"), ("q", "p", "x", "y")])
        self.assert_like_define(world, ("x", "y", "p", "q"))
        self.assert_like_define(world, ("x", "y", "r"))

    def test_classes_that_cannot_be_joined(self):
        self.assertEqual(list(base_orders(torn_world(), "d", "e")), [])
        self.assertEqual(list(base_orders(torn_world(), "c", "e", "f")), [])

    def test_lexicographic_order_and_the_order_of_the_arguments(self):
        world = world_of("c", "a", "b")
        expected = [tuple("cab"), tuple("cba"), tuple("acb"), tuple("abc"), tuple("bca"), tuple("bac")]
        for names in itertools.permutations("abc"):
            self.assertEqual(list(base_orders(world, *names)), [(order, order) for order in expected])

    def test_eight_bases_and_nine(self):
        world = free_world(12)
        began = time.monotonic()
        names = tuple(LETTERS[:8])
        turned = names[:6] + ("h", "g")
        self.assertEqual(list(itertools.islice(base_orders(world, *names), 2)), [(names, names), (turned, turned)])
        # The only order is the last of all.
        chain = world_of("a", *[f"{name} {before}" for before, name in zip(LETTERS, LETTERS[1:8])])
        self.assertEqual(list(base_orders(chain, *names)), [(names[::-1], names[::-1])])
        self.assertLess(time.monotonic() - began, 5)
        self.assert_refused(world, TooMany, (8,), lambda: next(base_orders(world, *LETTERS[:9])))
        self.assert_refused(world, TooMany, (8,), lambda: next(base_orders(world, *LETTERS[:12])))
        self.assert_refused(world, NoClass, ("z",), lambda: next(base_orders(world, *LETTERS[:9], "z")))
        self.assert_refused(world, BadNames, None, lambda: next(base_orders(world, *LETTERS[:9], "a")))
        self.assert_refused(world, BadName, None, lambda: next(base_orders(world, *LETTERS[:9], "Z")))

    def test_more_than_ten_ancestors(self):
        world = wide_world()
        self.assert_like_define(world, ("j", "k", "n", "a"))
        self.assertTrue(possible([world[name].linearization for name in "jkn"]))

    def test_an_order_is_one_that_define_takes_with_its_line(self):
        world = world_of("a", "b a", "c a", "d", "e d")
        for order, line in base_orders(world, "b", "c", "d", "e"):
            with world.trial():
                self.assertEqual(world.define("new", *order, m=METHOD), ("new", *line))


class GeneratorTest(WorldCase):
    """A generator uses the world as it is when its first result is asked for, and raises its errors then."""

    def test_errors_come_with_the_first_result(self):
        world = free_world(12)
        for make, kind in (
            (lambda: futures(world), BadNames), (lambda: futures(world, "A"), BadName),
            (lambda: futures(world, "a", "a"), BadNames), (lambda: futures(world, "z"), NoClass),
            (lambda: futures(world, *LETTERS[:11]), TooMany), (lambda: base_orders(world, 1), BadName),
            (lambda: base_orders(world, "a", "a"), BadNames), (lambda: base_orders(world, "z"), NoClass),
            (lambda: base_orders(world, *LETTERS[:9]), TooMany),
        ):
            made = make()
            self.assert_raises_fields(kind, None, next, made)
            self.assertEqual(list(made), [])

    def test_the_world_at_the_first_result(self):
        world = example_world()
        made, orders = futures(world, "b", "c"), base_orders(world, "b", "c")
        late = futures(world, "z")
        world["b"].bases = ()
        world.define("z")
        self.assertEqual(list(made), [tuple("bca"), tuple("cab"), tuple("cba")])
        self.assertEqual(list(orders), [(("b", "c"), tuple("bca")), (("c", "b"), tuple("cab"))])
        self.assertEqual(list(late), [("z",)])

    def test_a_class_that_is_removed_ahead_of_the_first_result(self):
        world = example_world()
        made, orders = futures(world, "b"), base_orders(world, "b")
        world.remove("b")
        self.assert_raises_fields(NoClass, ("b",), next, made)
        self.assert_raises_fields(NoClass, ("b",), next, orders)

    def test_later_changes_do_not_matter(self):
        world = free_world(4)
        expected = list(futures(world, *"abcd"))
        pairs = list(base_orders(world, *"abcd"))
        made, orders = futures(world, *"abcd"), base_orders(world, *"abcd")
        found, told = [next(made)], [next(orders)]
        world["d"].bases = ("a",)
        found.append(next(made))
        told.append(next(orders))
        world.perform(("remove", "d"), ("remove", "b"), ("define", "b", ("c",), {}))
        found.extend(made)
        told.extend(orders)
        self.assertEqual((found, told), (expected, pairs))

    def test_two_generators_at_once(self):
        world = free_world(3)
        one, other = futures(world, "a", "b", "c"), futures(world, "a", "b", "c")
        self.assertEqual(list(zip(one, other)), [(future, future) for future in futures(world, "c", "b", "a")])

    def test_through_a_trial(self):
        world = example_world()
        made = futures(world, "b", "c")
        with world.trial():
            world["c"].bases = ("b",)
            first = next(made)
        self.assertEqual([first, *made], [("c", "b", "a")])


if __name__ == "__main__":
    unittest.main()
