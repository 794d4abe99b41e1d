"""Points 12, 13, 17 and the interface: the checks, against the words of the points."""

import collections
import itertools
import random
import unittest

from nextbehind.answers import Always, Answer, Can, Cannot, Chain, Reason, Ring, Stopped, Through
from nextbehind.checks import check_ahead, check_always, check_behind, check_join, check_sometimes
from nextbehind.errors import BadNames
from nextbehind.world import World
from tests.asked import (
    CHECKS, QUESTIONS, questions_of, refusals, refusing_world, small_worlds, torn_in_three, world_with,
)
from tests.cases import LETTERS, METHOD, WorldCase, diamond, example_world, free_world, method_world, torn_world
from tests.samples import Plain, no_names, no_tuples
from tests.test_questions import ALLOWS, question_names
from tests.words import Words, all_futures, chains_by_the_words

CB = ("c", "b", "c")
BA = ("b", "a", "b")


class Agreeing:
    """An object that says that it equals everything, or a name, without being it."""

    def __init__(self, name=None):
        self.name = name

    def __eq__(self, other):
        return self.name is None or other == self.name

    def __hash__(self):
        return hash(self.name or "a")


class NearlyCan(Can):
    """A class of answers that is not one of the package."""


class NearlyRing(Ring):
    """A class of reasons that is not one of the package."""


def reasons_of(steps, names):
    """Return all reasons with the same steps."""
    return [Chain(steps), Ring(steps), *[Through(steps, name) for name in names]]


def changed_steps(source, steps, names):
    """Return a tuple of steps that was changed in one place."""
    at = source.randrange(len(steps))
    x, y, c = steps[at]
    other = source.choice(names)
    found = [
        steps[:at] + steps[at + 1:], steps[:at] + (steps[at],) + steps[at:], steps[:at] + ((y, x, c),) + steps[at + 1:],
        steps[:at] + ((other, y, c),) + steps[at + 1:], steps[:at] + ((x, other, c),) + steps[at + 1:],
        steps[:at] + ((x, y, other),) + steps[at + 1:], steps[at:] + steps[:at], steps[::-1], steps + steps, (),
        list(steps), tuple(list(step) for step in steps), steps[:at] + ((x, y),) + steps[at + 1:],
        steps[:at] + ((x, y, c, c),) + steps[at + 1:], steps[:at] + ((x, y, 0),) + steps[at + 1:],
        steps[:at] + ((x, y, "zz"),) + steps[at + 1:], steps + ((y, x, "zz"),), steps[:at] + (None,) + steps[at + 1:],
    ]
    return found


class ChecksCase(WorldCase):
    def assert_like_the_words(self, words, word, thing, values, more):
        """Check that a check says what the words say, and return it."""
        expected = bool(ALLOWS[word](words, thing, *values, **more))
        found = CHECKS[word](words.world, thing, *values, **more)
        if found is not expected:
            self.fail(f"{found} for {thing.show()} to {word} {values} {more} about {words.world}")
        return found

    def assert_check(self, expected, word, world, thing, *values, **more):
        self.assertIs(CHECKS[word](world, thing, *values, **more), expected, thing)


class ExamplesTest(ChecksCase):
    def test_examples(self):
        self.assertIs(check_ahead(example_world(), Can(("c", "b", "a")), "b", "c"), False)
        self.assertIs(check_ahead(example_world(), Can(("b", "c", "a")), "b", "c"), True)

    def test_by_name(self):
        world = method_world()
        can = Can(("b", "a"))
        self.assertIs(check_ahead(world=world, thing=can, one="b", other="a"), True)
        self.assertIs(check_behind(world=world, thing=can, one="b", other="a", method="m"), True)
        self.assertIs(check_always(world=world, thing=Always(()), name="a", method="m"), True)
        self.assertIs(check_sometimes(world=world, thing=can, name="a", method="m"), True)
        self.assert_raises_fields(BadNames, None, check_join, world=world, thing=can)
        self.assertRaises(TypeError, check_behind, world, can, "b", "a", "m")


class AgainstTheWordsTest(ChecksCase):
    def few_questions(self, world):
        """The questions about a world, of those with many classes only some."""
        return [asked for at, asked in enumerate(questions_of(world)) if len(asked[1]) < 4 or at % 3 == 0]

    def test_all_futures_and_chains_of_tiny_worlds(self):
        kinds = collections.Counter()
        for world in (example_world(), world_with("b", "a c", "a", "b a", "c a"), world_with("s", "x y", "s", "x", "y s"),
                      world_with("x", "y", "x", "y", "z x y"), world_with("b", "a d e", "a", "b", "d a b", "e b a")):
            words = Words(world)
            names = world.names
            things = []
            for many in range(len(names) + 1):
                for future in itertools.permutations(names, many):
                    things += [Can(future), *[Stopped(future, name) for name in names]]
            triples = list(itertools.product(names, repeat=3))
            chains = [(step,) for step in triples]
            if len(names) == 3:
                chains += list(itertools.product(triples, repeat=2))
            chains += [chain for chain in chains_by_the_words(world, names, 3) if len(chain) > 1]
            for chain in chains:
                passed = names if len(chain) == 1 else (chain[0][1],)
                things += [Cannot(reason) for reason in reasons_of(chain, passed)]
            for word, values, more in self.few_questions(world):
                for thing in things:
                    found = self.assert_like_the_words(words, word, thing, values, more)
                    kinds[(word, type(thing), type(getattr(thing, "reason", None)), found)] += 1
        for word, kind in (("join", Can), ("ahead", Can), ("behind", Can), ("sometimes", Can), ("always", Stopped)):
            self.assertGreater(kinds[(word, kind, type(None), True)], 5)
        for word, kind in (("join", Ring), ("ahead", Chain), ("behind", Chain), ("behind", Through), ("always", Ring),
                           ("sometimes", Chain)):
            self.assertGreater(kinds[(word, Cannot, kind, True)], 3)

    def test_all_futures_and_chains_of_small_worlds(self):
        source = random.Random(51)
        for world in small_worlds():
            words = Words(world)
            names = world.names
            for word, values, more in source.sample(self.few_questions(world), min(60, len(self.few_questions(world)))):
                chains = chains_by_the_words(world, question_names(word, values), 4)
                chains = source.sample(chains, min(25, len(chains)))
                things = [Can(future) for future in source.sample(sorted(words.futures), min(25, len(words.futures)))]
                things += [Stopped(thing.future, source.choice(names)) for thing in things]
                for chain in chains:
                    things += [Cannot(reason) for reason in reasons_of(chain, source.sample(names, 1))]
                for thing in things:
                    self.assert_like_the_words(words, word, thing, values, more)

    def test_answers_that_were_changed(self):
        source = random.Random(52)
        true, false = 0, 0
        for world in small_worlds():
            words = Words(world)
            names = world.names
            for word, values, more in self.few_questions(world):
                answer = QUESTIONS[word](world, *values, **more)
                self.assert_like_the_words(words, word, answer, values, more)
                for thing in self.changed(source, answer, names):
                    found = self.assert_like_the_words(words, word, thing, values, more)
                    true, false = true + found, false + (not found)
        self.assertGreater(true, 1000)
        self.assertGreater(false, 10000)

    def changed(self, source, answer, names):
        if type(answer) is Always:
            return self.changed_always(source, answer.reasons, names)
        if type(answer) is not Cannot:
            return self.changed_future(source, answer, names)
        steps = answer.reason.steps
        found = [Cannot(reason) for reason in reasons_of(steps, names)]
        found += [Always((("a", answer.reason),)), Can(steps), Stopped(steps, "a")]
        name = getattr(answer.reason, "name", source.choice(names))
        for other in changed_steps(source, steps, names):
            found += [Cannot(reason) for reason in reasons_of(other, [name])]
        return found

    def changed_future(self, source, answer, names):
        future = answer.future
        at = source.randrange(len(future))
        other = source.choice(names)
        changed = [future[:at] + future[at + 1:], future[:at] + (other,) + future[at:], future[::-1],
                   future[:at] + (other,) + future[at + 1:], future + (other,), (other,) + future, list(future), (),
                   future[:at] + (0,) + future[at:], future[:at] + ("zz",) + future[at:], source.choice(names)]
        found = [Can(future), *[Stopped(future, name) for name in names]]
        for thing in changed:
            found += [Can(thing), Stopped(thing, getattr(answer, "name", other))]
        return found + [Cannot(Chain(future)), Always(future), Always(())]

    def changed_always(self, source, reasons, names):
        found = [Always(reasons[::-1]), Always(reasons[:-1]), Always(reasons[1:]), Always(reasons + reasons[-1:]),
                 Always(list(reasons)), Always(tuple(list(pair) for pair in reasons)), Always(()), Cannot(reasons),
                 Always(tuple((name, reason, reason) for name, reason in reasons))]
        found += [Cannot(reason) for _, reason in reasons]
        if reasons:
            at = source.randrange(len(reasons))
            name, reason = reasons[at]
            for thing in [*reasons_of(reason.steps, names), reasons[at - 1][1], Cannot(reason), None, reason.steps]:
                found.append(Always(reasons[:at] + ((name, thing),) + reasons[at + 1:]))
            for steps in changed_steps(source, reason.steps, names):
                for thing in reasons_of(steps, []):
                    found.append(Always(reasons[:at] + ((name, thing),) + reasons[at + 1:]))
            for other in names:
                found.append(Always(reasons[:at] + ((other, reason),) + reasons[at + 1:]))
                found.append(Always(reasons[:at] + ((other, reason),) + reasons[at:]))
        return [thing for thing in found if type(thing) is not Always or self.can_be_shown(thing)]

    def can_be_shown(self, thing):
        """The words take reasons only: what is none is looked at in KindsTest."""
        return all(isinstance(pair[1], Reason) for pair in thing.reasons)


class LargerAnswersTest(ChecksCase):
    def test_larger_futures(self):
        world = world_with("s", "b c", "a", "b a", "c a", "s", "u")
        for future in (("b", "c", "a"), ("u", "b", "s", "c", "a"), ("s", "u", "b", "c", "a")):
            self.assert_check(True, "join", world, Can(future), "c", "b")
            self.assert_check(True, "ahead", world, Can(future), "b", "c")
            self.assert_check(False, "ahead", world, Can(future), "c", "b")
        self.assert_check(True, "behind", world, Can(("s", "b", "c", "u", "a")), "b", "c")
        self.assert_check(False, "behind", world, Can(("b", "u", "c", "a")), "b", "c")
        self.assert_check(True, "behind", world, Can(("b", "u", "c", "a")), "b", "c", method="m")
        self.assert_check(False, "behind", world, Can(("b", "s", "c", "a")), "b", "c", method="m")
        self.assert_check(True, "always", world, Stopped(("s", "u", "b", "a"), "s"), "b", "m")
        self.assert_check(False, "always", world, Stopped(("u", "b", "s", "a"), "s"), "b", "m")
        self.assert_check(True, "sometimes", world, Can(("u", "b", "s", "a")), "b", "m", "u")
        # A stopper that the question does not name still stands in the way.
        self.assert_check(False, "sometimes", world, Can(("s", "u", "b", "a")), "b", "m", "u")

    def test_futures_without_a_class_of_the_question(self):
        world = world_with("s", "b", "a", "b a", "s", "u")
        self.assert_check(False, "join", world, Can(("b", "a")), "b", "u")
        self.assert_check(False, "ahead", world, Can(("b", "a")), "b", "u")
        self.assert_check(False, "behind", world, Can(("u",)), "b", "u")
        self.assert_check(False, "always", world, Stopped(("s", "b", "a"), "s"), "b", "m", "u")
        self.assert_check(False, "always", world, Stopped(("b", "a"), "s"), "b", "m")
        self.assert_check(False, "sometimes", world, Can(("b", "a")), "b", "m", "u")
        self.assert_check(False, "sometimes", world, Can(("u",)), "b", "m", "u")
        self.assert_check(False, "join", world, Can(()), "b")

    def test_longer_rings(self):
        one, other = ("a", "b", "d"), ("b", "a", "e")
        world = torn_world()
        for steps in ((one, other), (other, one), (one, other) * 2, (other, one) * 3000):
            self.assert_check(True, "join", world, Cannot(Ring(steps)), "d", "e")
            self.assert_check(True, "ahead", world, Cannot(Ring(steps)), "e", "d")
            self.assert_check(True, "behind", world, Cannot(Ring(steps)), "e", "d")
        for steps in ((one, other, one), (one,), (one, one), (("d", "a", "d"), one, other), (one, other, one) * 1000):
            self.assert_check(False, "join", world, Cannot(Ring(steps)), "d", "e")
        # Steps of an ancestor are not steps of the class, though they say the same.
        self.assert_check(False, "join", world, Cannot(Ring((one, other))), "f", "e")
        self.assert_check(True, "join", world, Cannot(Ring((("a", "b", "f"), other))), "f", "e")
        self.assert_check(False, "join", world, Cannot(Ring((one, other))), "d", "c")

    def test_longer_chains(self):
        world = diamond()
        whole = (("d", "b", "d"), ("b", "c", "d"), ("c", "a", "d"))
        for steps in (whole, (("d", "a", "d"),), (("d", "c", "d"), ("c", "a", "d")), whole[:1] + (("b", "a", "d"),)):
            self.assert_check(True, "ahead", world, Cannot(Chain(steps)), "a", "d")
            self.assert_check(True, "behind", world, Cannot(Chain(steps)), "a", "d")
            self.assert_check(False, "ahead", world, Cannot(Chain(steps)), "d", "a")
            self.assert_check(False, "behind", world, Cannot(Chain(steps)), "d", "a")
            self.assert_check(False, "ahead", world, Cannot(Chain(steps)), "a", "b")
        # Steps for b are no steps for the set of a and d.
        self.assert_check(False, "ahead", world, Cannot(Chain((("d", "b", "d"), ("b", "a", "b")))), "a", "d")
        self.assert_check(True, "behind", world, Cannot(Through(whole, "b")), "d", "a")
        self.assert_check(True, "behind", world, Cannot(Through(whole, "c")), "d", "a")
        for name in ("a", "d", "z", "", None):
            self.assert_check(False, "behind", world, Cannot(Through(whole, name)), "d", "a")
        self.assert_check(False, "behind", world, Cannot(Through((("d", "a", "d"),), "b")), "d", "a")
        self.assert_check(False, "ahead", world, Cannot(Through(whole, "b")), "d", "a")
        self.assert_check(False, "ahead", world, Cannot(Through(whole, "b")), "a", "d")

    def test_a_through_needs_a_class_with_the_method(self):
        world = world_with("b", "d a", "a", "b a", "c a", "d b c")
        steps = (("d", "b", "d"), ("b", "c", "d"), ("c", "a", "d"))
        self.assert_check(True, "behind", world, Cannot(Through(steps, "b")), "d", "a", method="m")
        self.assert_check(False, "behind", world, Cannot(Through(steps, "c")), "d", "a", method="m")
        self.assert_check(True, "behind", world, Cannot(Through(steps, "c")), "d", "a", method=None)

    def test_chains_where_the_classes_cannot_be_joined(self):
        world = world_with("a", "b d e", "a", "b", "d a b", "e b a")
        ring = Ring((("a", "b", "d"), ("b", "a", "e")))
        self.assert_check(True, "join", world, Cannot(ring), "d", "e")
        self.assert_check(False, "join", world, Cannot(Chain(ring.steps)), "d", "e")
        self.assert_check(False, "sometimes", world, Cannot(Chain((("a", "b", "d"),))), "b", "m", "d", "e")
        self.assert_check(True, "sometimes", world, Cannot(Chain((("a", "b", "d"),))), "b", "m", "d")
        self.assert_check(True, "sometimes", world, Cannot(ring), "b", "m", "d", "e")
        self.assert_check(False, "always", world, Always((("a", ring),)), "d", "m", "e")
        self.assert_check(True, "always", world, Cannot(ring), "d", "m", "e")
        self.assert_check(True, "always", world, Always((("a", Chain((("d", "a", "d"),))),)), "d", "m")

    def test_all_reasons_of_always(self):
        world = world_with("s t u", "x", "s", "t s", "x t", "o", "p", "y o p x", "u p o")
        s, t, u = ("x", "s", "x"), ("x", "t", "x"), Ring((("o", "p", "y"), ("p", "o", "u")))
        pairs = (("s", Chain((s,))), ("t", Chain((t,))), ("u", u))
        self.assert_check(True, "always", world, Always(pairs), "x", "m", "y")
        longer = (("s", Chain((t, ("t", "s", "t")))), ("t", Chain((t,))), ("u", Ring(u.steps * 2)))
        self.assert_check(True, "always", world, Always((pairs[0], *longer[1:])), "x", "m", "y")
        self.assert_check(True, "always", world, Always((("s", Chain((t, ("t", "s", "x")))), *pairs[1:])), "x", "m", "y")
        # A step for t is none where the stopper is s.
        self.assert_check(False, "always", world, Always(longer), "x", "m", "y")
        self.assert_check(True, "always", world, Always(longer), "x", "m", "y", "t")
        for wrong in itertools.permutations(pairs):
            self.assert_check(wrong == pairs, "always", world, Always(wrong), "x", "m", "y")
        for wrong in (pairs[:2], pairs[1:], pairs + pairs[2:], (), pairs * 2, list(pairs), [*pairs[:2], ["u", u]],
                      (*pairs[:2], ["u", u]), (*pairs[:2], ("u",)), (*pairs[:2], ("u", u, u)), (*pairs[:2], "uu"),
                      (*pairs[:2], ("u", Chain(u.steps))), (*pairs[:2], ("u", Cannot(u))), (*pairs[:2], ("u", u.steps)),
                      (*pairs[:2], ("u", NearlyRing(u.steps))), (*pairs[:2], ("x", u)), (*pairs[:2], (None, u)),
                      (*pairs[:2], (["u"], u)), (*pairs[:2], (Agreeing(), u)), (*pairs, ("o", u)), {"s": 1, "t": 2}):
            self.assert_check(False, "always", world, Always(wrong), "x", "m", "y")
        # Without y the class u can be ahead.
        self.assert_check(False, "always", world, Always(pairs), "x", "m")
        self.assert_check(True, "always", world, Stopped(("u", "p", "o", "x", "t", "s"), "u"), "x", "m")


class KindsTest(ChecksCase):
    """Objects of other kinds, at each place of an answer."""

    def setUp(self):
        self.worlds = [method_world(), world_with("b", "a d e", "a", "b", "d a b", "e b a")]

    def assert_nothing(self, thing):
        """Check that the value is an answer to none of the questions."""
        for world in self.worlds:
            for word, values, more in questions_of(world):
                self.assert_check(False, word, world, thing, *values, **more)

    def test_things(self):
        for thing in [*no_names(), *no_tuples(), "b", "cannot", True, Agreeing(), Answer(), Reason(), Can, Cannot,
                      Chain((BA,)), Ring((BA,)), ("b", "a"), {"future": ("b", "a")}, World()]:
            with self.subTest(repr(thing)[:40]):
                self.assert_nothing(thing)

    def test_subclasses(self):
        world = self.worlds[0]
        self.assert_check(True, "join", world, Can(("b", "a")), "a", "b")
        self.assert_nothing(NearlyCan(("b", "a")))
        torn = self.worlds[1]
        ring = (("a", "b", "d"), ("b", "a", "e"))
        self.assert_check(True, "join", torn, Cannot(Ring(ring)), "d", "e")
        self.assert_nothing(Cannot(NearlyRing(ring)))

    def test_parts(self):
        for thing in [*no_names(), *no_tuples(), Agreeing(), (Agreeing(),), Can(("a",)), ["b", "a"], (["b"], "a"), "ba",
                      ("b", ("a",)), (b"b", "a"), {"b": 0, "a": 1}, (("b", "a"),), ("b", "a", Plain())]:
            with self.subTest(repr(thing)[:40]):
                if thing not in (("a",), ("b",)):
                    self.assert_nothing(Can(thing))
                    self.assert_nothing(Stopped(thing, "b"))
                self.assert_nothing(Stopped(("b", "a"), thing))
                self.assert_nothing(Cannot(thing))
                for made in (Chain(thing), Ring(thing), Through(thing, "b"), Through((BA,), thing)):
                    self.assert_nothing(Cannot(made))
                if thing != ():
                    self.assert_nothing(Always(thing))

    def test_objects_that_say_that_they_equal_a_name(self):
        torn = self.worlds[1]
        through = (("d", "a", "d"), ("a", "b", "d"))
        self.assert_check(True, "behind", torn, Cannot(Through(through, "a")), "d", "b")
        self.assert_check(False, "behind", torn, Cannot(Through(through, Agreeing("a"))), "d", "b")
        self.assert_check(True, "always", torn, Stopped(("b", "a"), "b"), "a", "m")
        self.assert_check(False, "always", torn, Stopped(("b", "a"), Agreeing("b")), "a", "m")
        self.assert_check(False, "always", torn, Stopped((Agreeing("b"), "a"), "b"), "a", "m")
        chain = Chain((("d", "b", "d"),))
        self.assert_check(True, "always", torn, Always((("b", chain),)), "d", "m")
        self.assert_check(False, "always", torn, Always(((Agreeing("b"), chain),)), "d", "m")
        self.assert_check(False, "always", torn, Always((("b", Chain((("d", Agreeing("b"), "d"),))),)), "d", "m")

    def test_parts_of_steps_and_pairs(self):
        torn = self.worlds[1]
        good = (("a", "b", "d"), ("b", "a", "e"))
        for thing in [*no_names(), Agreeing(), ["a"], ("a",), "z", 0]:
            with self.subTest(repr(thing)[:40]):
                for at in range(3):
                    step = good[0][:at] + (thing,) + good[0][at + 1:]
                    self.assert_check(False, "join", torn, Cannot(Ring((step, good[1]))), "d", "e")
                self.assert_check(False, "join", torn, Cannot(Ring((thing, good[1]))), "d", "e")
                chain = Chain((("d", "b", "d"),))
                self.assert_check(True, "always", torn, Always((("b", chain),)), "d", "m")
                for pair in ((thing, chain), ("b", thing), thing, ("b", chain, thing)):
                    self.assert_check(False, "always", torn, Always((pair,)), "d", "m")

    def test_lists_in_the_place_of_tuples(self):
        torn = self.worlds[1]
        good = (("a", "b", "d"), ("b", "a", "e"))
        for steps in (list(good), [list(step) for step in good], tuple(list(step) for step in good), (good[0], list(good[1]))):
            self.assert_check(False, "join", torn, Cannot(Ring(steps)), "d", "e")
        self.assert_check(False, "join", torn, Can(["a"]), "a")
        self.assert_check(False, "sometimes", torn, Can(["a"]), "a", "m")
        self.assert_check(False, "ahead", torn, Cannot(Chain([("d", "b", "d")])), "b", "d")
        self.assert_check(False, "behind", torn, Cannot(Through([("d", "a", "d"), ("a", "b", "d")], "a")), "d", "b")
        self.assert_check(True, "behind", torn, Cannot(Through((("d", "a", "d"), ("a", "b", "d")), "a")), "d", "b")


class LaterTest(ChecksCase):
    """The same objects before and after a change of the world."""

    def test_bases(self):
        world = example_world()
        chain, can = Cannot(Chain((CB,))), Can(("c", "b", "a"))
        self.assert_check(True, "ahead", world, can, "c", "b")
        self.assert_check(False, "ahead", world, chain, "b", "c")
        world["c"].bases = ("b",)
        self.assert_check(True, "ahead", world, can, "c", "b")
        self.assert_check(True, "ahead", world, chain, "b", "c")
        self.assert_check(False, "ahead", world, Can(("b", "c", "a")), "b", "c")
        world["b"].bases = ()
        world["c"].bases = ("a",)
        self.assert_check(False, "ahead", world, chain, "b", "c")
        self.assert_check(True, "ahead", world, Can(("b", "c", "a")), "b", "c")
        self.assert_check(True, "join", world, Can(("c", "a")), "c")
        self.assert_check(False, "join", world, Can(("c", "b")), "c", "b")

    def test_rings(self):
        world = world_with("", "", "a", "b", "d a b", "e b a")
        ring = Cannot(Ring((("a", "b", "d"), ("b", "a", "e"))))
        self.assert_check(True, "join", world, ring, "d", "e")
        with world.trial():
            world["e"].bases = ("a", "b")
            self.assert_check(False, "join", world, ring, "d", "e")
            self.assert_check(True, "join", world, Can(("d", "e", "a", "b")), "d", "e")
        self.assert_check(True, "join", world, ring, "d", "e")
        self.assert_check(False, "join", world, Can(("d", "e", "a", "b")), "d", "e")

    def test_stoppers(self):
        world = world_with("", "a b", "a", "b a")
        always, stopped, can = Always(()), Stopped(("b", "a"), "b"), Can(("b", "a"))
        self.assert_check(True, "always", world, always, "a", "m")
        self.assert_check(True, "sometimes", world, can, "a", "m")
        world.perform(("remove", "b"), ("define", "b", ("a",), {"m": ((), (), None, ())}))
        self.assert_check(False, "always", world, always, "a", "m")
        self.assert_check(True, "always", world, stopped, "a", "m")
        self.assert_check(False, "sometimes", world, can, "a", "m")
        world.remove("b")
        self.assert_check(True, "always", world, always, "a", "m")
        self.assert_check(False, "always", world, stopped, "a", "m")

    def test_answers_that_are_changed(self):
        world = example_world()
        can = Can(("c", "b", "a"))
        self.assert_check(True, "join", world, can, "b", "c")
        can.future = ["c", "b", "a"]
        self.assert_check(False, "join", world, can, "b", "c")


class RefusedTest(WorldCase):
    def test_every_error_whatever_the_answer_is(self):
        world = refusing_world()
        things = [None, Can(("b", "a")), Can(()), Cannot(Ring(())), Always(()), Plain()]
        for at, (word, values, more, error, fields) in enumerate(refusals()):
            for thing in (things[at % len(things)], things[(at + 1) % len(things)]):
                with self.subTest(word, values=repr(values)[:80], more=repr(more)[:80]):
                    self.assert_raises_fields(error, fields, CHECKS[word], world, thing, *values, **more)
        self.assertEqual(world, refusing_world())


class WideTest(ChecksCase):
    def test_24_classes(self):
        names = LETTERS[:24]
        world = free_world(24)
        self.assert_check(True, "join", world, Can(tuple(names)), *names)
        self.assert_check(False, "join", world, Can(tuple(names[1:])), *names)
        self.assert_check(True, "behind", world, Can(tuple(names)), "c", "d")
        self.assert_check(False, "behind", world, Can(tuple(names)), "c", "e")

    def test_a_ring_of_three_steps(self):
        steps = (("a", "b", "x"), ("b", "c", "y"), ("c", "a", "z"))
        for ring in (steps, steps[1:] + steps[:1], steps * 2):
            self.assert_check(True, "join", torn_in_three(), Cannot(Ring(ring)), "x", "y", "z")
            self.assert_check(False, "join", torn_in_three(), Cannot(Ring(ring)), "x", "y")
        self.assert_check(False, "join", torn_in_three(), Cannot(Ring(steps[::-1])), "x", "y", "z")
        self.assertGreater(len(all_futures(torn_in_three())), 0)

    def test_the_method_of_the_question(self):
        world = World()
        world.define("a", m=METHOD, q=METHOD)
        world.define("b", "a", m=((), (), None, ()), q=METHOD)
        self.assert_check(True, "always", world, Always(()), "a", "q")
        self.assert_check(False, "always", world, Always(()), "a", "m")
        self.assert_check(True, "sometimes", world, Can(("b", "a")), "a", "q", "b")
        self.assert_check(False, "sometimes", world, Can(("b", "a")), "a", "m", "b")


if __name__ == "__main__":
    unittest.main()
