"""Point 4: methods and stoppers."""

import unittest

from nextbehind.errors import BadMethod
from nextbehind.methods import is_method, is_stopper
from tests.samples import no_names, no_tuples

STOPPERS = [
    ((), (), None, ()),
    ((), ("hi",), None, ()),
    (("o",), ("hi", "hi", "hi", "hi"), None, ()),
    (("o", "p", "q", "r"), ("a", "b", "c", "d"), None, ()),
]

PASSERS = [
    ((), (), (), ()),
    ((), (), (), ("bye",)),
    (("o",), ("u", "v"), ("q",), ()),
    (("o",), ("hi",), ("o",), ("hi",)),
    (("o", "p", "q", "r"), ("a", "a", "b", "b"), ("r", "q", "p", "o"), ("c", "c", "c", "c")),
]

# Each is wrong for takes and passes; the first five are also wrong for before and after.
NO_WORDS = [("a", "b", "c", "d", "e"), ("a",) * 5, ("Box",), ("a", "", "b"), ("a", 1)]
NO_ROWS = NO_WORDS + [("a", "a"), ("a", "b", "c", "b")]


def with_part(method, at, part):
    return method[:at] + (part,) + method[at + 1:]


def no_methods():
    """Return values that are not methods, with each of the four parts wrong in turn."""
    passer = (("o",), ("u",), ("q",), ("w",))
    stopper = (("o",), ("u",), None, ())
    things = no_tuples()
    for at, wrong in ((0, NO_ROWS), (1, NO_WORDS), (2, NO_ROWS), (3, NO_WORDS)):
        things.extend([with_part(passer, at, part) for part in wrong])
        things.extend([with_part(passer, at, (item,)) for item in no_names()])
        things.extend([with_part(passer, at, part) for part in no_tuples() if at != 2 or part is not None])
    for at, wrong in ((0, NO_ROWS), (1, NO_WORDS)):
        things.extend([with_part(stopper, at, part) for part in wrong + no_tuples()])
    # A stopper says nothing after.
    things.extend([with_part(stopper, 3, part) for part in [("bye",), ("a", "b"), *NO_WORDS, *no_tuples()]])
    # Too few parts and too many.
    for method in (passer, stopper):
        things.extend([method[:many] for many in range(4)])
        things.extend([method[1:], method + ((),), method + (None,), method + method, (method,), list(method)])
    return things


class MethodsTest(unittest.TestCase):
    def test_examples(self):
        self.assertIs(is_method((("o",), ("hi",), None, ("bye",))), False)
        self.assertIs(is_stopper(((), ("hi",), None, ())), True)

    def test_stoppers(self):
        for method in STOPPERS:
            with self.subTest(method):
                self.assertIs(is_method(method), True)
                self.assertIs(is_stopper(method), True)

    def test_methods_that_pass_on(self):
        for method in PASSERS:
            with self.subTest(method):
                self.assertIs(is_method(method), True)
                self.assertIs(is_stopper(method), False)

    def test_an_empty_row_to_pass_is_no_stopper(self):
        self.assertIs(is_stopper(((), ("hi",), (), ())), False)

    def test_words_repeat_and_options_do_not(self):
        twice = ("a", "a")
        self.assertIs(is_method(((), twice, (), twice)), True)
        self.assertIs(is_method((twice, (), (), ())), False)
        self.assertIs(is_method(((), (), twice, ())), False)

    def test_each_part_has_at_most_four(self):
        four, five = ("a", "b", "c", "d"), ("a", "b", "c", "d", "e")
        for at in range(4):
            self.assertIs(is_method(with_part(((), (), (), ()), at, four)), True, at)
            self.assertIs(is_method(with_part(((), (), (), ()), at, five)), False, at)

    def test_what_is_no_method(self):
        for thing in no_methods():
            with self.subTest(repr(thing)[:80]):
                self.assertIs(is_method(thing), False)

    def test_is_stopper_of_what_is_no_method(self):
        for thing in no_methods():
            with self.subTest(repr(thing)[:80]):
                with self.assertRaises(BadMethod) as caught:
                    is_stopper(thing)
                self.assertIs(caught.exception.name, None)

    def test_by_name(self):
        self.assertIs(is_method(thing=STOPPERS[0]), True)
        self.assertIs(is_method(thing=None), False)
        self.assertIs(is_stopper(method=STOPPERS[0]), True)
        self.assertRaises(BadMethod, is_stopper, method=None)

    def test_a_list_is_left_as_it_is(self):
        parts = [["o"], ["hi"], None, []]
        is_method(parts)
        self.assertRaises(BadMethod, is_stopper, parts)
        self.assertEqual(parts, [["o"], ["hi"], None, []])


if __name__ == "__main__":
    unittest.main()
