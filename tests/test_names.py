"""Point 3: names and rows of names."""

import string
import unittest

from nextbehind.names import is_name, is_row
from tests.samples import no_names, no_tuples


class NamesTest(unittest.TestCase):
    def test_example(self):
        self.assertIs(is_name("Box"), False)

    def test_lengths(self):
        for length in range(1, 9):
            self.assertIs(is_name("abcdefgh"[:length]), True, length)
        self.assertIs(is_name(""), False)
        self.assertIs(is_name("abcdefghi"), False)
        self.assertIs(is_name("a" * 9), False)
        self.assertIs(is_name("a" * 8), True)

    def test_every_letter_and_no_other_character(self):
        characters = [chr(code) for code in range(32, 127)] + ["\n", "\t"]
        for character in characters:
            is_letter = character in string.ascii_lowercase
            for text in (character, "a" + character, character + "a", "zz" + character + "zz"):
                with self.subTest(text):
                    self.assertIs(is_name(text), is_letter)

    def test_letters_may_repeat(self):
        self.assertIs(is_name("aa"), True)

    def test_what_is_no_name(self):
        for thing in no_names():
            with self.subTest(repr(thing)[:40]):
                self.assertIs(is_name(thing), False)

    def test_by_name(self):
        self.assertIs(is_name(thing="box"), True)
        self.assertIs(is_name(thing=7), False)


class RowsTest(unittest.TestCase):
    def test_lengths(self):
        names = ("e", "d", "abcdefgh", "a", "c")
        for length in range(5):
            self.assertIs(is_row(names[:length]), True, length)
        self.assertIs(is_row(names), False)
        self.assertIs(is_row(tuple(string.ascii_lowercase)), False)

    def test_names_are_different(self):
        self.assertIs(is_row(("a", "a")), False)
        self.assertIs(is_row(("a", "b", "c", "a")), False)
        self.assertIs(is_row(("a", "b", "b", "c")), False)
        self.assertIs(is_row(("a", "b", "c", "c")), False)
        self.assertIs(is_row(("a", "a", "a", "a", "a")), False)
        self.assertIs(is_row(("a", "aa", "aaa")), True)

    def test_what_is_no_tuple(self):
        for thing in no_tuples():
            with self.subTest(repr(thing)[:40]):
                self.assertIs(is_row(thing), False)

    def test_items_that_are_no_names(self):
        for item in no_names():
            with self.subTest(repr(item)[:40]):
                self.assertIs(is_row((item,)), False)
                self.assertIs(is_row(("a", item)), False)
                self.assertIs(is_row((item, "a", "b", "c")), False)

    def test_by_name(self):
        self.assertIs(is_row(thing=("a", "b")), True)
        self.assertIs(is_row(thing=["a", "b"]), False)

    def test_a_list_is_left_as_it_is(self):
        things = ["a", "b"]
        is_row(things)
        is_name(things)
        self.assertEqual(things, ["a", "b"])


if __name__ == "__main__":
    unittest.main()
