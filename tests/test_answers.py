"""Point 16 and the interface: reasons and answers."""

import unittest

from nextbehind import answers
from nextbehind.answers import Always, Answer, Can, Cannot, Chain, Reason, Ring, Stopped, Through
from nextbehind.errors import BadSteps
from tests.samples import Plain

CB = ("c", "b", "c")
BA = ("b", "a", "b")
AC = ("a", "c", "d")

FIELDS = {
    Chain: ("steps",),
    Through: ("steps", "name"),
    Ring: ("steps",),
    Can: ("future",),
    Stopped: ("future", "name"),
    Cannot: ("reason",),
    Always: ("reasons",),
}

BASES = {Chain: Reason, Through: Chain, Ring: Chain, Can: Answer, Stopped: Can, Cannot: Answer, Always: Answer}


def some_objects():
    """Return objects that are all different, made anew by each call."""
    chains = [Chain(()), Chain((CB,)), Chain((BA,)), Chain((CB, BA)), Chain((CB, BA, AC)), Chain((BA, CB))]
    rings = [Ring(()), Ring((CB,)), Ring((CB, BA)), Ring((CB, BA, AC))]
    throughs = [Through((), "b"), Through((CB,), "b"), Through((CB, BA), "b"), Through((CB, BA), "c")]
    cans = [Can(()), Can(("a",)), Can(("b", "a")), Can(("a", "b"))]
    stopped = [Stopped((), "a"), Stopped(("b", "a"), "a"), Stopped(("b", "a"), "b"), Stopped(("a", "b"), "b")]
    cannot = [Cannot(reason) for reason in chains + rings + throughs]
    always = [Always(()), Always((("a", Chain((CB,))),)), Always((("b", Chain((CB,))),)), Always((("a", Ring((CB,))),)),
              Always((("a", Chain((CB,))), ("b", Chain((CB,)))))]
    return chains + rings + throughs + cans + stopped + cannot + always


class FieldsTest(unittest.TestCase):
    def test_by_position_and_by_name(self):
        for kind, fields in FIELDS.items():
            values = [Plain() for _ in fields]
            for made in (kind(*values), kind(**dict(zip(fields, values)))):
                self.assertIs(type(made), kind)
                self.assertEqual(sorted(vars(made)), sorted(fields))
                for field, value in zip(fields, values):
                    self.assertIs(getattr(made, field), value)
        self.assertEqual(Through(name="b", steps=(CB,)), Through((CB,), "b"))
        self.assertEqual(Stopped(("b",), name="b"), Stopped(future=("b",), name="b"))

    def test_no_field_is_left_out_or_added(self):
        for kind, fields in FIELDS.items():
            self.assertRaises(TypeError, kind, *fields[1:])
            self.assertRaises(TypeError, kind, *fields, "more")

    def test_made_without_checks(self):
        for kind, fields in FIELDS.items():
            for thing in [None, 1, "a", ["a"], {"a": 1}, object()]:
                made = kind(*[thing for _ in fields])
                self.assertIs(getattr(made, fields[0]), thing)

    def test_bases(self):
        for kind, base in BASES.items():
            self.assertEqual(kind.__bases__, (base,))
        self.assertEqual((Reason.__bases__, Answer.__bases__), ((object,), (object,)))

    def test_the_methods_are_in_the_classes_themselves(self):
        for kind, base in BASES.items():
            wanted = {"__init__", "__eq__", "show"}
            wanted |= {"__add__", "__len__"} if issubclass(kind, Reason) else {"__bool__"}
            self.assertLessEqual(wanted, set(vars(kind)), kind)
            self.assertEqual(kind.__module__, answers.__name__)


class ShowTest(unittest.TestCase):
    def assert_lines(self, made, *lines):
        self.assertEqual(made.show(), list(lines))
        self.assertIs(type(made.show()), list)
        made.show().append("more")
        self.assertEqual(made.show(), list(lines))
        self.assertIsNot(made.show(), made.show())

    def test_examples(self):
        self.assertEqual(Cannot(Chain((("b", "a", "b"),))).show(), ["cannot", "b ahead of a in b"])
        self.assertEqual(Stopped(("b", "a"), "b").show(), ["future b a", "stopper b"])
        chain = Chain((("c", "b", "c"),)) + Chain((("b", "a", "b"),))
        self.assertEqual((chain.show(), len(chain)), (["c ahead of b in c", "b ahead of a in b"], 2))

    def test_chain(self):
        self.assert_lines(Chain(()))
        self.assert_lines(Chain((BA,)), "b ahead of a in b")
        self.assert_lines(Chain((CB, BA, AC)), "c ahead of b in c", "b ahead of a in b", "a ahead of c in d")

    def test_through(self):
        self.assert_lines(Through((), "x"), "passes x")
        self.assert_lines(Through((CB, BA), "b"), "c ahead of b in c", "b ahead of a in b", "passes b")

    def test_ring(self):
        self.assert_lines(Ring(()), "ring")
        self.assert_lines(Ring((CB, ("b", "c", "d"))), "c ahead of b in c", "b ahead of c in d", "ring")

    def test_can(self):
        self.assert_lines(Can(()), "future")
        self.assert_lines(Can(("b",)), "future b")
        self.assert_lines(Can(("b", "a", "abcdefgh")), "future b a abcdefgh")

    def test_stopped(self):
        self.assert_lines(Stopped((), "b"), "future", "stopper b")
        self.assert_lines(Stopped(("c", "b", "a"), "c"), "future c b a", "stopper c")

    def test_cannot(self):
        self.assert_lines(Cannot(Ring((BA,))), "cannot", "b ahead of a in b", "ring")
        self.assert_lines(Cannot(Through((CB, BA), "b")),
                          "cannot", "c ahead of b in c", "b ahead of a in b", "passes b")
        self.assert_lines(Cannot(Chain(())), "cannot")

    def test_always(self):
        self.assert_lines(Always(()), "always")
        self.assert_lines(Always((("y", Chain((BA,))),)), "always", "stopper y", "b ahead of a in b")
        made = Always((("y", Ring((CB, BA))), ("z", Through((BA,), "q")), ("x", Chain(()))))
        self.assert_lines(made, "always", "stopper y", "c ahead of b in c", "b ahead of a in b", "ring",
                          "stopper z", "b ahead of a in b", "passes q", "stopper x")


class EqualityTest(unittest.TestCase):
    def test_equal_and_unequal(self):
        many = some_objects()
        for at, one in enumerate(many):
            for index, other in enumerate(some_objects()):
                self.assertIs(one == other, at == index, (one.show(), other.show()))
                self.assertIs(one != other, at != index)

    def test_classes_with_equal_fields(self):
        for one, other in ((Chain((CB,)), Ring((CB,))), (Through((CB,), "b"), Chain((CB,))), (Can(()), Chain(())),
                           (Stopped(("a",), "b"), Can(("a",))), (Cannot(()), Always(())),
                           (Stopped((CB,), "b"), Through((CB,), "b"))):
            self.assertIs(one == other, False)
            self.assertIs(other == one, False)

    def test_values_of_other_kinds(self):
        for made in some_objects():
            for thing in [None, (), [], "", 0, True, False, made.show(), Plain(), vars(made), *vars(made).values()]:
                self.assertIs(made == thing, False)
                self.assertIs(made != thing, True)


class TruthTest(unittest.TestCase):
    def test_truth_of_answers(self):
        for future in ((), ("a",), ("b", "a")):
            self.assertIs(bool(Can(future)), True)
            self.assertIs(bool(Stopped(future, "a")), False)
        for reason in (Chain(()), Chain((CB,)), Ring((CB,)), Through((CB,), "b")):
            self.assertIs(bool(Cannot(reason)), False)
            self.assertIs(bool(Always((("a", reason),))), True)
        self.assertIs(bool(Always(())), True)


class SumTest(unittest.TestCase):
    def chains(self, steps):
        return [Chain(steps), Through(steps, "b"), Ring(steps)]

    def test_sums_that_fit(self):
        for one in self.chains((CB,)):
            for other in self.chains((BA, AC)):
                found = one + other
                self.assertIs(type(found), Chain)
                self.assertIs(type(found.steps), tuple)
                self.assertEqual(found, Chain((CB, BA, AC)))
                # Both are as they were.
                self.assertEqual((one.steps, other.steps), ((CB,), (BA, AC)))

    def test_only_the_steps_where_they_meet_count(self):
        self.assertEqual(Chain((BA, CB)) + Chain((BA, CB)), Chain((BA, CB, BA, CB)))
        self.assertEqual(Chain((CB, BA)) + Chain((AC, CB)), Chain((CB, BA, AC, CB)))

    def test_several_sums(self):
        self.assertEqual(Chain((CB,)) + Ring((BA,)) + Through((AC,), "b"), Chain((CB, BA, AC)))
        ring = Ring((CB, ("b", "c", "d")))
        self.assertEqual(len(ring + ring + ring), 6)

    def test_sums_that_do_not_fit(self):
        for first, second in (((CB,), (AC,)), ((BA,), (CB,)), ((CB, BA), (BA,)), ((CB,), (CB,)), ((BA, AC), (AC, BA))):
            for one in self.chains(first):
                for other in self.chains(second):
                    with self.assertRaises(BadSteps) as caught:
                        one + other
                    self.assertIs(type(caught.exception), BadSteps)

    def test_empty_steps(self):
        for first, second in (((), (CB,)), ((CB,), ()), ((), ())):
            for one in self.chains(first):
                for other in self.chains(second):
                    self.assertRaises(BadSteps, lambda: one + other)
                    self.assertEqual((one.steps, other.steps), (first, second))


class LenTest(unittest.TestCase):
    def test_len(self):
        for many in (0, 1, 2, 3, 100):
            steps = (CB,) * many
            for made in (Chain(steps), Through(steps, "b"), Ring(steps)):
                self.assertEqual(len(made), many)


if __name__ == "__main__":
    unittest.main()
