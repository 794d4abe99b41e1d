"""Points 6 and 8: the merge, and the clash with the fewest steps."""

import itertools
import random
import unittest

from nextbehind.errors import BadTuple, Clash
from nextbehind.merging import is_clash, merged
from tests.samples import no_names, no_tuples


def merge_by_the_words(tuples):
    """The merge as point 6 tells it, or None."""
    rows, result = [list(row) for row in tuples], []
    while any(rows):
        firsts = [row[0] for row in rows if row]
        free = [name for name in firsts if not any(name in row[1:] for row in rows)]
        if not free:
            return None
        result.append(free[0])
        rows = [[name for name in row if name != free[0]] for row in rows]
    return tuple(result)


def is_clash_by_the_words(tuples, steps):
    """Whether a tuple of well-formed steps is a clash as point 8 tells it."""
    if len(steps) < 2:
        return False
    for at, (x, y, k) in enumerate(steps):
        if not 0 <= k < len(tuples) or x not in tuples[k] or y not in tuples[k]:
            return False
        if tuples[k].index(x) >= tuples[k].index(y):
            return False
        if y != steps[(at + 1) % len(steps)][0]:
            return False
    return True


def fewest_steps(tuples):
    """The number of steps of a shortest clash, found in the graph of all pairs, or None."""
    after = {}
    for row in tuples:
        for x, y in itertools.combinations(row, 2):
            after.setdefault(x, set()).add(y)
    lengths = []
    for start in after:
        seen, level, length = set(), {start}, 0
        while level and start not in seen:
            level = {y for x in level for y in after.get(x, ())} - seen
            seen |= level
            length += 1
        if start in seen:
            lengths.append(length)
    return min(lengths, default=None)


def all_tuples(names):
    """All tuples of different names among some, of every length."""
    return [row for many in range(len(names) + 1) for row in itertools.permutations(names, many)]


def numbered(many):
    """Different names, as many as asked for."""
    letters = "abcdefghijklmnopqrstuvwxyz"
    return ["".join(word) for word in itertools.islice(itertools.product(letters, repeat=4), many)]


def two_name_ring(names):
    """Tuples of two names each, whose only clashes go all the way round."""
    return [(names[at - 1], names[at]) for at in range(len(names))]


class MergingCase(unittest.TestCase):
    def assert_clash(self, tuples, many):
        with self.assertRaises(Clash) as caught:
            merged(*tuples)
        clash = caught.exception
        self.assertIs(clash.name, None)
        self.assertIs(type(clash.tuples), tuple)
        self.assertEqual(clash.tuples, tuple(tuples))
        self.assertIs(type(clash.steps), tuple)
        self.assertEqual({type(step) for step in clash.steps}, {tuple})
        self.assertEqual({type(step[2]) for step in clash.steps}, {int})
        self.assertEqual(len(clash.steps), many)
        self.assertTrue(is_clash_by_the_words(clash.tuples, clash.steps))
        self.assertIs(is_clash(clash.tuples, clash.steps), True)

    def assert_bad_tuple(self, index, function, *values):
        with self.assertRaises(BadTuple) as caught:
            function(*values)
        self.assertEqual(caught.exception.index, index)
        self.assertIs(type(caught.exception.index), type(index))

    def assert_like_the_words(self, tuples):
        expected = merge_by_the_words(tuples)
        many = fewest_steps(tuples)
        self.assertEqual(expected is None, many is not None)
        if expected is None:
            self.assert_clash(tuples, many)
        else:
            self.assertEqual(merged(*tuples), expected)


class MergedTest(MergingCase):
    def test_examples(self):
        self.assertEqual(merged(("b", "a"), ("c", "a"), ("b", "c")), ("b", "c", "a"))
        self.assertRaises(Clash, merged, ("a",), ("b", "a"), ("a", "b"))

    def test_none_and_one(self):
        self.assertEqual(merged(), ())
        self.assertIs(type(merged()), tuple)
        for row in all_tuples("abcd"):
            self.assertEqual(merged(row), row)
            self.assertIs(type(merged(row)), tuple)

    def test_empty_tuples(self):
        self.assertEqual(merged(()), ())
        self.assertEqual(merged((), (), ()), ())
        self.assertEqual(merged((), ("b", "a"), (), ("c",), ()), ("b", "a", "c"))

    def test_without_a_name_in_common(self):
        self.assertEqual(merged(("z", "y"), ("b", "a"), ("c",)), ("z", "y", "b", "a", "c"))

    def test_the_first_tuple_with_a_free_name_counts(self):
        self.assertEqual(merged(("c",), ("b",), ("a",)), ("c", "b", "a"))
        self.assertEqual(merged(("x", "y"), ("z", "x")), ("z", "x", "y"))
        self.assertEqual(merged(("x", "y"), ("z", "x"), ("w",)), ("z", "x", "y", "w"))
        self.assertEqual(merged(("d", "b", "a"), ("e", "c", "a"), ("d", "e")), ("d", "b", "e", "c", "a"))
        self.assertEqual(merged(("o",), ("b", "o"), ("c", "o")), ("b", "c", "o"))

    def test_the_search_begins_again_with_the_first_tuple(self):
        self.assertEqual(merged(("p", "q"), ("r", "p"), ("s",), ("r", "s")), ("r", "p", "q", "s"))

    def test_the_same_tuple_again(self):
        self.assertEqual(merged(("b", "a"), ("b", "a"), ("b", "a")), ("b", "a"))

    def test_names_of_any_length(self):
        self.assertEqual(merged(("abcdefgh", "a"), ("aa", "a")), ("abcdefgh", "aa", "a"))

    def test_every_order_is_kept(self):
        rows = (("h", "f", "d", "b"), ("g", "f", "c", "b"), ("e", "d", "c"), (), ("h", "a"))
        result = merged(*rows)
        self.assertEqual(sorted(result), list("abcdefgh"))
        for row in rows:
            self.assertEqual(tuple(name for name in result if name in row), row)

    def test_all_of_three_tuples_of_three_names(self):
        for tuples in itertools.product(all_tuples("abc"), repeat=3):
            self.assert_like_the_words(tuples)

    def test_many_sets_of_tuples(self):
        source = random.Random(8)
        for _ in range(3000):
            letters = "abcdefghij"[:source.randint(2, 10)]
            rows = [source.sample(letters, source.randint(0, min(4, len(letters))))
                    for _ in range(source.randint(1, 9))]
            self.assert_like_the_words([tuple(row) for row in rows])

    def test_arguments_with_many_parts(self):
        names = numbered(4000)
        self.assertEqual(merged(tuple(names)), tuple(names))
        self.assertEqual(merged(*[(name,) for name in names]), tuple(names))
        pairs = list(zip(names, names[1:]))
        self.assertEqual(merged(*reversed(pairs)), tuple(names))


class ClashTest(MergingCase):
    def test_rings_of_every_length(self):
        for many in range(2, 13):
            ring = two_name_ring("abcdefghijklm"[:many])
            for tuples in (ring, ring[::-1], ring[1::2] + ring[::2], [(), *ring, ("x", "y")]):
                with self.subTest(tuples):
                    self.assert_clash(tuples, many)

    def test_the_only_clashes_of_two_steps(self):
        with self.assertRaises(Clash) as caught:
            merged(("c", "b"), (), ("b", "c"))
        self.assertIn(caught.exception.steps, [
            (("c", "b", 0), ("b", "c", 2)),
            (("b", "c", 2), ("c", "b", 0)),
        ])

    def test_steps_over_names_between(self):
        self.assert_clash([("a", "x", "y", "b"), ("b", "z", "a")], 2)
        self.assert_clash([("a", "x", "b"), ("b", "y", "c"), ("c", "z", "a")], 3)

    def test_a_short_ring_behind_a_long_one(self):
        long_ring = two_name_ring("abcdefg")
        for short in ([("x", "y"), ("y", "x")], [("x", "y"), ("y", "z"), ("z", "x")]):
            self.assert_clash(long_ring + short, len(short))
            self.assert_clash(short + long_ring, len(short))
            self.assert_clash(long_ring + [("a", "x")] + short, len(short))

    def test_a_short_way_through_a_long_ring(self):
        ring = two_name_ring("abcdefg")
        self.assert_clash(ring + [("a", "e")], 4)
        self.assert_clash(ring + [("e", "a")], 5)
        self.assert_clash(ring + [("a", "e"), ("g", "c")], 4)
        self.assert_clash(ring + [("b", "a")], 2)

    def test_rings_that_share_a_name(self):
        tuples = [("a", "b"), ("b", "c"), ("c", "d"), ("d", "a"), ("a", "x"), ("x", "y"), ("y", "a")]
        for order in (tuples, tuples[::-1], tuples[3:] + tuples[:3]):
            self.assert_clash(order, 3)

    def test_names_ahead_of_the_ring_and_behind_it(self):
        self.assert_clash([("s", "t", "a", "b", "z"), ("s", "b", "c", "z"), ("t", "c", "a", "y")], 3)

    def test_linearizations_with_the_bases_last(self):
        self.assert_clash([("a",), ("b", "a"), ("a", "b")], 2)
        self.assert_clash([("x", "a", "b"), ("y", "b", "c"), ("z", "c", "a"), ("x", "y", "z")], 3)

    def test_the_same_call_raises_equal_fields(self):
        tuples = two_name_ring("abc") + two_name_ring("xyz")
        found = []
        for _ in range(2):
            with self.assertRaises(Clash) as caught:
                merged(*tuples)
            found.append(caught.exception.steps)
        self.assertEqual(found[0], found[1])

    def test_arguments_with_many_parts(self):
        names = numbered(4000)
        self.assert_clash(two_name_ring(names), 4000)
        self.assert_clash([tuple(names), tuple(reversed(names))], 2)
        parts = [names[:900], names[900:1800], names[1800:2700]]
        self.assert_clash([tuple(parts[at - 1] + parts[at]) for at in range(3)], 3)
        threes = [two_name_ring(names[at:at + 3]) for at in range(0, 3000, 3)]
        self.assert_clash([row for three in threes for row in three], 3)


class BadTupleTest(MergingCase):
    def test_what_is_no_tuple(self):
        for thing in no_tuples():
            with self.subTest(repr(thing)[:40]):
                self.assert_bad_tuple(0, merged, thing)
                self.assert_bad_tuple(2, merged, ("a",), (), thing, ("b",))
                self.assert_bad_tuple(1, is_clash, (("a",), thing), ())

    def test_items_that_are_no_names(self):
        for item in no_names():
            with self.subTest(repr(item)[:40]):
                self.assert_bad_tuple(0, merged, (item,))
                self.assert_bad_tuple(1, merged, ("a",), ("a", "b", item), ("c",))
                self.assert_bad_tuple(1, is_clash, (("a",), ("b", item)), ())

    def test_names_that_are_not_different(self):
        self.assert_bad_tuple(0, merged, ("a", "a"))
        self.assert_bad_tuple(1, merged, ("a", "b"), ("a", "b", "c", "a"))
        self.assert_bad_tuple(0, is_clash, (("a", "b", "b"),), ())

    def test_the_first_wrong_one_counts(self):
        self.assert_bad_tuple(1, merged, ("a",), ["a"], ("a", "a"), None)
        self.assert_bad_tuple(0, merged, ("a", "a"), None)
        self.assert_bad_tuple(1, is_clash, (("a",), ["a"], ("a", "a"), None), ())

    def test_ahead_of_clash(self):
        self.assert_bad_tuple(2, merged, ("a", "b"), ("b", "a"), ["c"])
        self.assert_bad_tuple(0, merged, None, ("a", "b"), ("b", "a"))

    def test_arguments_stay_as_they_are(self):
        row = ["a", "b"]
        self.assert_bad_tuple(1, merged, ("b", "a"), row)
        steps = [["b", "a", 0], ["a", "b", 1]]
        is_clash((("b", "a"), ("a", "b")), steps)
        self.assertEqual((row, steps), (["a", "b"], [["b", "a", 0], ["a", "b", 1]]))


class IsClashTest(MergingCase):
    tuples = (("b", "a"), ("a", "b"))
    clash = (("b", "a", 0), ("a", "b", 1))
    ring = (("a", "b"), ("b", "c"), ("c", "a"))
    around = (("a", "b", 0), ("b", "c", 1), ("c", "a", 2))

    def assert_no_clash(self, tuples, thing):
        with self.subTest(repr(thing)[:80]):
            self.assertIs(is_clash(tuples, thing), False)

    def test_example_and_fewest_steps(self):
        self.assertIs(is_clash(self.tuples, self.clash), True)
        self.assertIs(is_clash(self.tuples, self.clash[::-1]), True)
        self.assertIs(is_clash(self.ring, self.around), True)
        self.assertIs(is_clash(self.ring, self.around[1:] + self.around[:1]), True)

    def test_names_need_not_be_neighbours(self):
        tuples = (("a", "x", "b"), ("b", "y", "a"))
        self.assertIs(is_clash(tuples, (("a", "b", 0), ("b", "a", 1))), True)
        self.assertIs(is_clash(tuples, (("a", "x", 0), ("x", "b", 0), ("b", "y", 1), ("y", "a", 1))), True)

    def test_longer_than_the_fewest(self):
        self.assertIs(is_clash(self.tuples, self.clash * 2), True)
        self.assertIs(is_clash(self.tuples, self.clash * 1000), True)
        tuples = self.ring + (("b", "a"),)
        self.assertIs(is_clash(tuples, self.around), True)
        self.assertIs(is_clash(tuples, self.around + (("a", "b", 0), ("b", "a", 3))), True)

    def test_too_few_steps(self):
        self.assert_no_clash(self.tuples, ())
        self.assert_no_clash((), ())
        for step in self.clash + (("a", "a", 0), ("b", "b", 1)):
            self.assert_no_clash(self.tuples, (step,))

    def test_a_step_left_out_repeated_or_turned(self):
        for at in range(3):
            x, y, k = self.around[at]
            ahead, behind = self.around[:at], self.around[at + 1:]
            self.assert_no_clash(self.ring, ahead + behind)
            self.assert_no_clash(self.ring, ahead + ((x, y, k), (x, y, k)) + behind)
            self.assert_no_clash(self.ring, ahead + ((y, x, k),) + behind)
            self.assert_no_clash(self.ring, ahead + ((x, y, k), (y, x, k)) + behind)
            self.assert_no_clash(self.ring, ahead + ((x, x, k), (x, y, k)) + behind)
        self.assert_no_clash(self.ring, self.around[::-1])

    def test_a_chain_that_does_not_close(self):
        tuples = self.tuples + (("b", "c"), ("c", "d"))
        self.assert_no_clash(tuples, self.clash + (("b", "c", 2),))
        self.assert_no_clash(tuples, (("b", "c", 2), ("c", "d", 3)))

    def test_names_that_are_not_in_the_tuple(self):
        self.assert_no_clash(self.tuples, (("b", "c", 0), ("c", "b", 1)))
        self.assert_no_clash(self.ring, (("a", "c", 0), ("c", "a", 2)))

    def test_wrong_indexes(self):
        for index in (1, 2, 3, -1, -2, -3, 10 ** 999, -10 ** 999, True, False, 0.0, None, "0", "", (), (0,), [0]):
            self.assert_no_clash(self.tuples, (("b", "a", index), self.clash[1]))
        for index in (0, 2, -1, True, 1.0):
            self.assert_no_clash(self.tuples, (self.clash[0], ("a", "b", index)))
        self.assert_no_clash(self.ring, (("a", "b", -3), ("b", "c", -2), ("c", "a", -1)))

    def test_names_that_are_no_names(self):
        for item in no_names():
            self.assert_no_clash(self.tuples, ((item, "a", 0), ("a", item, 1)))
            self.assert_no_clash(self.tuples, (("b", item, 0), (item, "b", 1)))
            self.assert_no_clash(self.tuples, ((item, item, 0), (item, item, 1)))

    def test_steps_that_are_no_steps(self):
        for step in no_tuples():
            self.assert_no_clash(self.tuples, (step, step))
            self.assert_no_clash(self.tuples, (self.clash[0], step))
        wrong = [(), ("b",), ("b", "a"), ("b", "a", 0, 0), (0, "b", "a"), ["b", "a", 0], self.clash]
        for step in wrong:
            self.assert_no_clash(self.tuples, (step, self.clash[1]))

    def test_what_is_no_tuple_of_steps(self):
        for thing in no_tuples() + [list(self.clash), [list(step) for step in self.clash], dict.fromkeys(self.clash)]:
            self.assert_no_clash(self.tuples, thing)

    def test_tuples_without_a_clash(self):
        self.assert_no_clash((), self.clash)
        self.assert_no_clash(((), ()), self.clash)
        self.assert_no_clash((("b", "a"), ("b", "a")), self.clash)

    def test_all_short_things_are_judged_by_the_words(self):
        tuples = (("b", "c", "a"), ("a", "b"), ())
        steps = list(itertools.product("abd", "abc", (-1, 0, 1, 2, 3)))
        found = 0
        for many in range(3):
            for thing in itertools.product(steps, repeat=many):
                expected = is_clash_by_the_words(tuples, thing)
                self.assertIs(is_clash(tuples, thing), expected)
                found += expected
        self.assertEqual(found, 2)

    def test_tuples_that_are_no_tuple(self):
        for thing in no_tuples():
            with self.subTest(repr(thing)[:40]):
                self.assert_bad_tuple(None, is_clash, thing, self.clash)
        self.assert_bad_tuple(None, is_clash, list(self.tuples), self.clash)

    def test_a_wrong_tuple_among_them(self):
        self.assert_bad_tuple(2, is_clash, self.tuples + (["a"],), self.clash)
        self.assert_bad_tuple(0, is_clash, (("a", "a"),) + self.tuples, None)
        self.assert_bad_tuple(0, is_clash, ("ab", "ba"), self.clash)

    def test_by_name(self):
        self.assertIs(is_clash(tuples=self.tuples, thing=self.clash), True)
        self.assertIs(is_clash(thing=self.clash[:1], tuples=self.tuples), False)


if __name__ == "__main__":
    unittest.main()
