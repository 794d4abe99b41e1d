"""Points 10 to 13, 16, 17 and the interface: the questions, against searches by the words of the points."""

import collections
import time
import unittest

from nextbehind.answers import Always, Can, Cannot, Chain, Ring, Stopped, Through
from nextbehind.errors import BadNames
from nextbehind.questions import ahead, always, behind, join, sometimes
from nextbehind.world import World
from tests.asked import (
    CHECKS, QUESTIONS, questions_of, refusals, refusing_world, small_worlds, torn_in_three, world_with,
)
from tests.cases import LETTERS, METHOD, STOPPER, WorldCase, diamond, example_world, method_world, torn_world, world_of
from tests.words import Words, chains_by_the_words, closure_by_the_words, least, passed_by, stoppers_by_the_words

ALLOWS = {
    "join": Words.allows_join, "ahead": Words.allows_ahead, "behind": Words.allows_behind,
    "always": Words.allows_always, "sometimes": Words.allows_sometimes,
}


def question_names(word, values):
    """Return the classes of a question."""
    return (values[0], *values[2:]) if word in ("always", "sometimes") else values


def is_ring(chain):
    return chain[0][0] == chain[-1][1]


def least_ring(world, names):
    return least(chains_by_the_words(world, names, len(names)), is_ring)


def least_chain(world, names, starts, end):
    chains = chains_by_the_words(world, names, len(world))
    return least(chains, lambda chain: chain[0][0] in starts and chain[-1][1] == end)


def least_through(world, one, other, method):
    counting = [name for name in world.names if method is None or method in world[name].methods]
    passing = set(counting) - {one, other}
    chains = chains_by_the_words(world, (one, other), len(world))
    return least(chains, lambda chain: (chain[0][0], chain[-1][1]) == (one, other) and passing & set(passed_by(chain)))


def least_reason(world, word, values, more, reason):
    """Return the fewest steps that a reason could have in the place of this one."""
    names = question_names(word, values)
    if type(reason) is Ring:
        return least_ring(world, names)
    if type(reason) is Through:
        return least_through(world, *names, more.get("method"))
    if word == "sometimes":
        starts = [name for name in stoppers_by_the_words(world, values[1]) if name != values[0]]
        return least_chain(world, names, starts, values[0])
    return least_chain(world, names, names[1:], names[0])


class AgainstTheWordsTest(WorldCase):
    def assert_least(self, world, word, values, more, answer):
        """Check the number of steps, and the classes of futures."""
        names = question_names(word, values)
        if isinstance(answer, Can):
            members = {*names, answer.name} if type(answer) is Stopped else names
            self.assertEqual(sorted(answer.future), sorted(closure_by_the_words(world, members)))
        elif type(answer) is Cannot:
            self.assertEqual(len(answer.reason), least_reason(world, word, values, more, answer.reason))
        else:
            for stopper, reason in answer.reasons:
                members = {*names, stopper}
                fewest = least_chain(world, members, names[:1], stopper)
                if type(reason) is Ring:
                    fewest = least_ring(world, members)
                self.assertEqual(len(reason), fewest)

    def test_all_questions_about_small_worlds(self):
        kinds = collections.Counter()
        for world in small_worlds():
            words = Words(world)
            twin = World.read(str(world))
            text = str(world)
            for word, values, more in questions_of(world):
                with self.subTest(text, word=word, values=values, more=more):
                    answer = QUESTIONS[word](world, *values, **more)
                    self.assertTrue(ALLOWS[word](words, answer, *values, **more))
                    self.assert_least(world, word, values, more, answer)
                    self.assertIs(CHECKS[word](world, answer, *values, **more), True)
                    again = [QUESTIONS[word](other, *values, **more) for other in (world, world.copy(), twin)]
                    self.assertEqual(again, [answer] * 3)
                    kinds[(word, type(answer), type(getattr(answer, "reason", None)))] += 1
            self.assertEqual(str(world), text)
        nothing = type(None)
        self.assertEqual(set(kinds), {
            ("join", Can, nothing), ("join", Cannot, Ring),
            ("ahead", Can, nothing), ("ahead", Cannot, Ring), ("ahead", Cannot, Chain),
            ("behind", Can, nothing), ("behind", Cannot, Ring), ("behind", Cannot, Chain), ("behind", Cannot, Through),
            ("always", Always, nothing), ("always", Stopped, nothing), ("always", Cannot, Ring),
            ("sometimes", Can, nothing), ("sometimes", Cannot, Ring), ("sometimes", Cannot, Chain),
        })
        self.assertGreater(min(kinds.values()), 9)


class JoinTest(WorldCase):
    def test_example(self):
        self.assertIn(join(example_world(), "b", "c"), [Can(("b", "c", "a")), Can(("c", "b", "a"))])

    def test_one_class(self):
        self.assertEqual(join(diamond(), "d"), Can(("d", "b", "c", "a")))
        self.assertEqual(join(diamond(), "a"), Can(("a",)))

    def test_a_class_and_its_ancestors(self):
        self.assertEqual(join(diamond(), "a", "c", "d"), Can(("d", "b", "c", "a")))

    def test_a_ring_of_two_steps(self):
        rings = [Ring((("a", "b", "d"), ("b", "a", "e"))), Ring((("b", "a", "e"), ("a", "b", "d")))]
        for names in (("d", "e"), ("e", "d"), ("c", "e", "d"), ("d", "a", "e", "b")):
            answer = join(torn_world(), *names)
            self.assertIs(type(answer), Cannot)
            self.assertIn(answer.reason, rings)
            self.assertFalse(answer)
        # The ring tells the class of the question, not an ancestor of it.
        self.assertIn(join(torn_world(), "f", "e").reason.steps[0], [("a", "b", "f"), ("b", "a", "e")])

    def test_a_ring_of_three_steps(self):
        for names in (("x", "y", "z"), ("z", "a", "x", "y")):
            reason = join(torn_in_three(), *names).reason
            self.assertEqual(sorted(reason.steps), [("a", "b", "x"), ("b", "c", "y"), ("c", "a", "z")])
            self.assertTrue(is_ring(reason.steps))

    def test_no_ring_has_a_single_step(self):
        for world in small_worlds():
            for names in [world.names[:many] for many in range(1, len(world) + 1)]:
                answer = join(world, *names)
                self.assertTrue(answer or len(answer.reason) >= 2)

    def test_long_rings_in_a_world_of_24_classes(self):
        for many in (12, 11, 7, 4):
            roots, others = LETTERS[:many], LETTERS[12:12 + many]
            world = world_of(*roots, *[f"{name} {one} {other}" for name, one, other
                                       in zip(others, roots, roots[1:] + roots[0])])
            began = time.monotonic()
            answer = join(world, *others)
            self.assertEqual((type(answer.reason), len(answer.reason)), (Ring, many))
            self.assertIs(CHECKS["join"](world, answer, *others), True)
            for at in range(many):
                rest = others[:at] + others[at + 1:]
                self.assertEqual(len(join(world, *rest).future), 2 * many - 1)
            self.assertLess(time.monotonic() - began, 5)

    def test_24_classes(self):
        names = LETTERS[:24]
        world = world_of(*names)
        answer = join(world, *names[::-1])
        self.assertEqual(sorted(answer.future), sorted(names))
        deep = world_of("a", *[f"{name} {before}" for before, name in zip(names, names[1:])])
        self.assertEqual(join(deep, "x", "a"), Can(tuple(names[::-1])))


class AheadTest(WorldCase):
    def test_example(self):
        self.assertEqual(ahead(example_world(), "a", "b").show(), ["cannot", "b ahead of a in b"])

    def test_each_way(self):
        world = example_world()
        self.assertEqual(ahead(world, "b", "c"), Can(("b", "c", "a")))
        self.assertEqual(ahead(world, "c", "b"), Can(("c", "b", "a")))
        self.assertEqual(ahead(world, "b", "a"), Can(("b", "a")))
        self.assertEqual(ahead(world, "a", "c"), Cannot(Chain((("c", "a", "c"),))))

    def test_not_only_bases(self):
        self.assertEqual(ahead(diamond(), "a", "d"), Cannot(Chain((("d", "a", "d"),))))
        self.assertEqual(ahead(diamond(), "d", "a"), Can(("d", "b", "c", "a")))

    def test_classes_that_only_a_third_one_orders(self):
        # In d the class b is ahead of c: but the question is not about d.
        self.assertEqual(ahead(diamond(), "c", "b"), Can(("c", "b", "a")))

    def test_classes_that_cannot_be_joined(self):
        for names in (("d", "e"), ("e", "d"), ("f", "e")):
            self.assertEqual((type(ahead(torn_world(), *names).reason), len(ahead(torn_world(), *names).reason)),
                             (Ring, 2))

    def test_24_classes(self):
        world = world_of(*LETTERS[:22], "y " + " ".join(LETTERS[:8]), "z " + " ".join(LETTERS[8:16]))
        for one, other in (("y", "z"), ("z", "y")):
            future = ahead(world, one, other).future
            self.assertLess(future.index(one), future.index(other))
            self.assertEqual(sorted(future), sorted(LETTERS[:16] + "yz"))
        self.assertEqual(ahead(world, "p", "z"), Cannot(Chain((("z", "p", "z"),))))


class BehindTest(WorldCase):
    def test_example(self):
        self.assertEqual(behind(example_world(), "b", "c"), Can(("b", "c", "a")))

    def test_a_class_between(self):
        self.assertEqual(behind(diamond(), "d", "c"), Cannot(Through((("d", "b", "d"), ("b", "c", "d")), "b")))
        self.assertEqual(behind(diamond(), "d", "b"), Can(("d", "b", "c", "a")))
        self.assertEqual(behind(diamond(), "c", "a"), Can(("c", "a")))
        answer = behind(diamond(), "d", "a")
        self.assertIn(answer.reason.name, ("b", "c"))
        self.assertEqual(len(answer.reason), 2)

    def test_the_wrong_way(self):
        self.assertEqual(behind(diamond(), "a", "d"), Cannot(Chain((("d", "a", "d"),))))
        self.assertEqual(behind(diamond(), "c", "d", method=None), Cannot(Chain((("d", "c", "d"),))))

    def test_classes_that_cannot_be_joined(self):
        self.assertIs(type(behind(torn_world(), "d", "e").reason), Ring)
        self.assertIs(type(behind(torn_world(), "e", "f").reason), Ring)

    def test_with_a_method(self):
        world = World()
        for name, bases in (("a", ()), ("b", ("a",)), ("c", ("a",)), ("d", ("b", "c"))):
            methods = {"m": METHOD, "q": METHOD} if name != "b" else {"q": STOPPER}
            world.define(name, *bases, **methods)
        future = ("d", "b", "c", "a")
        self.assertEqual(behind(world, "d", "c", method="m"), Can(future))
        self.assertEqual(behind(world, "d", "c", method="q"),
                         Cannot(Through((("d", "b", "d"), ("b", "c", "d")), "b")))
        self.assertEqual(behind(world, "d", "a", method="m"),
                         Cannot(Through((("d", "c", "d"), ("c", "a", "d")), "c")))
        self.assertEqual(behind(world, "c", "a", method="m"), Can(("c", "a")))
        self.assertEqual(behind(world, "a", "c", method="q"), Cannot(Chain((("c", "a", "c"),))))
        self.assertEqual(behind(world, "d", "a"), behind(world, "d", "a", method=None))
        self.assertEqual(len(behind(world, "d", "a").reason), 2)

    def test_other_classes_between(self):
        # The ancestors of the first class must not come between, nor those of the second one.
        world = world_of("a", "b", "c", "d", "x a b", "y c d")
        for one, other in (("x", "y"), ("y", "x"), ("x", "c"), ("d", "x"), ("a", "d")):
            future = behind(world, one, other).future
            self.assertEqual(future.index(other), future.index(one) + 1)

    def test_24_classes(self):
        names = LETTERS[:24]
        deep = world_of("a", *[f"{name} {before}" for before, name in zip(names, names[1:])])
        self.assertEqual(behind(deep, "x", "w"), Can(tuple(names[::-1])))
        reason = behind(deep, "x", "a").reason
        self.assertEqual((type(reason), len(reason)), (Through, 2))
        self.assertEqual(behind(world_of(*names), "x", "a"), Can(("x", "a")))

    def test_the_method_is_passed_by_name(self):
        self.assertRaises(TypeError, behind, method_world(), "b", "a", "m")


class AlwaysTest(WorldCase):
    def test_example(self):
        self.assertEqual(always(method_world(), "a", "m").show(), ["always"])
        self.assertEqual(always(method_world(), "a", "m"), Always(()))

    def test_a_stopper_ahead(self):
        world = world_with("s t", "a x", "a", "s a", "t", "x s t")
        self.assertEqual(always(world, "a", "m"), Stopped(("s", "a"), "s"))
        self.assertEqual(always(world, "a", "m", "x"), Stopped(("x", "s", "a", "t"), "s"))
        self.assertEqual(always(world, "t", "m"), Stopped(("s", "t", "a"), "s"))
        self.assertFalse(always(world, "a", "m"))

    def test_a_stopper_behind(self):
        world = world_with("s t", "a x", "a", "s a", "t", "x s t")
        self.assertEqual(always(world, "x", "m"), Always((("s", Chain((("x", "s", "x"),))),
                                                          ("t", Chain((("x", "t", "x"),))))))
        self.assertEqual(always(world, "x", "m", "t", "a"), always(world, "x", "m"))

    def test_a_stopper_that_cannot_be_joined(self):
        world = world_with("s", "d", "a", "b", "d a b", "s b a")
        answer = always(world, "d", "m")
        self.assertEqual([(name, type(reason), len(reason)) for name, reason in answer.reasons], [("s", Ring, 2)])
        self.assertIs(type(always(world, "d", "m", "s").reason), Ring)
        self.assertTrue(answer)

    def test_the_class_itself_may_be_a_stopper(self):
        self.assertEqual(always(world_with("a", "", "a", "b a"), "a", "m"), Always(()))
        self.assertEqual(always(world_with("a s", "", "a", "s a"), "a", "m"), Stopped(("s", "a"), "s"))

    def test_the_stoppers_are_in_the_order_of_definition(self):
        world = world_with("z k b y", "x", "z", "k", "b k", "y z", "x y b")
        answer = always(world, "x", "m")
        self.assertEqual([name for name, _ in answer.reasons], ["z", "k", "b", "y"])
        self.assertIs(type(answer.reasons), tuple)
        self.assertEqual({type(pair) for pair in answer.reasons}, {tuple})

    def test_others_keep_a_stopper_away(self):
        # The stopper orders a and b in another way than the class x, which is asked for, too.
        world = world_with("s", "c", "a", "b", "c", "x a b", "s b a")
        self.assertEqual(type(always(world, "c", "m")), Stopped)
        answer = always(world, "c", "m", "x")
        self.assertEqual([(name, type(reason)) for name, reason in answer.reasons], [("s", Ring)])

    def test_others_keep_a_stopper_behind(self):
        world = world_with("s", "c", "c", "s", "y s", "x c y")
        self.assertEqual(type(always(world, "c", "m", "y")), Stopped)
        answer = always(world, "c", "m", "x")
        self.assertEqual(answer, Always((("s", Chain((("c", "s", "x"),))),)))

    def test_a_chain_of_several_steps(self):
        world = world_with("s", "x", "x", "u", "v", "s", "p x u", "q u v", "r v s")
        reasons = always(world, "x", "m", "r", "q", "p").reasons
        self.assertEqual(reasons, (("s", Chain((("x", "u", "p"), ("u", "v", "q"), ("v", "s", "r")))),))

    def test_classes_that_cannot_be_joined(self):
        world = world_with("s", "d", "a", "b", "d a b", "e b a", "s d")
        answer = always(world, "d", "m", "e")
        self.assertEqual((type(answer), type(answer.reason), len(answer.reason)), (Cannot, Ring, 2))

    def test_another_method_does_not_matter(self):
        world = World()
        world.define("a", m=METHOD)
        world.define("b", "a", q=STOPPER)
        self.assertEqual(always(world, "a", "m", "b"), Always(()))

    def test_24_classes(self):
        names = LETTERS[:24]
        began = time.monotonic()
        chain = world_with(" ".join(names[:-1]), "x", "a", *[f"{name} {one}" for one, name in zip(names, names[1:])])
        answer = always(chain, "x", "m")
        self.assertEqual([name for name, _ in answer.reasons], list(names[:-1]))
        self.assertEqual({len(reason) for _, reason in answer.reasons}, {1})
        free = world_with("x", "a", *names)
        answer = always(free, "a", "m", *names[1:23])
        self.assertEqual((sorted(answer.future), answer.name), (sorted(names), "x"))
        self.assertLess(answer.future.index("x"), answer.future.index("a"))
        self.assertLess(time.monotonic() - began, 5)


class SometimesTest(WorldCase):
    def test_example(self):
        self.assertEqual(sometimes(method_world(), "a", "m", "b"), Can(("b", "a")))

    def test_a_stopper_ahead(self):
        world = world_with("s", "a", "a", "s a", "x s")
        self.assertEqual(sometimes(world, "a", "m"), Can(("a",)))
        self.assertEqual(sometimes(world, "a", "m", "s"), Cannot(Chain((("s", "a", "s"),))))
        self.assertEqual(sometimes(world, "a", "m", "x"), Cannot(Chain((("s", "a", "x"),))))

    def test_stoppers_that_need_not_stand_ahead(self):
        world = world_with("s t u", "a", "s", "t", "u", "v u", "a", "w a s")
        for others in (("s",), ("t", "s"), ("w", "t"), ("v", "u", "t", "w")):
            future = sometimes(world, "a", "m", *others).future
            self.assertEqual([name for name in future[:future.index("a")] if name in "stu"], [])

    def test_a_chain_of_several_steps(self):
        world = world_with("s", "x", "s", "u", "v", "x", "p s u", "q u v", "r v x")
        self.assertEqual(sometimes(world, "x", "m", "r", "p", "q").reason,
                         Chain((("s", "u", "p"), ("u", "v", "q"), ("v", "x", "r"))))
        self.assertTrue(sometimes(world, "x", "m", "r", "p"))

    def test_the_chain_from_the_stopper_with_the_fewest_steps(self):
        # The stopper that is defined first needs two steps, in the order of definition and in that of the question.
        world = world_with("s t", "x", "s", "u", "t", "x", "p s u", "q u x", "r t x")
        for others in (("p", "q", "r"), ("r", "q", "p"), ("q", "p", "r")):
            self.assertEqual(sometimes(world, "x", "m", *others), Cannot(Chain((("t", "x", "r"),))))
        self.assertEqual(len(sometimes(world, "x", "m", "q", "p").reason), 2)

    def test_the_class_itself_may_be_a_stopper(self):
        self.assertEqual(sometimes(world_with("a", "", "a", "b a"), "a", "m", "b"), Can(("b", "a")))
        self.assertEqual(sometimes(world_with("a s", "", "a", "s a"), "a", "m", "s").reason,
                         Chain((("s", "a", "s"),)))

    def test_classes_that_cannot_be_joined(self):
        world = world_with("d", "a e", "a", "b", "d a b", "e b a")
        self.assertIs(type(sometimes(world, "a", "m", "d", "e").reason), Ring)
        self.assertIs(type(sometimes(world, "e", "m", "d").reason), Ring)

    def test_24_classes(self):
        names = LETTERS[:24]
        world = world_with(" ".join(names[:-1]), "x", *names)
        future = sometimes(world, "x", "m", *names[:-1]).future
        self.assertEqual((future[0], sorted(future)), ("x", sorted(names)))


class RefusedTest(WorldCase):
    def test_every_error(self):
        world = refusing_world()
        for word, values, more, error, fields in refusals():
            with self.subTest(word, values=repr(values)[:80], more=repr(more)[:80]):
                self.assert_raises_fields(error, fields, QUESTIONS[word], world, *values, **more)
        self.assertEqual(world, refusing_world())

    def test_by_name(self):
        world = method_world()
        self.assertEqual(ahead(world=world, one="b", other="a"), Can(("b", "a")))
        self.assertEqual(behind(world=world, one="b", other="a", method="m"), Can(("b", "a")))
        self.assertEqual(always(world=world, name="a", method="m"), Always(()))
        self.assertEqual(sometimes(world=world, name="a", method="m"), Can(("a",)))
        self.assert_raises_fields(BadNames, None, join, world=world)


if __name__ == "__main__":
    unittest.main()
