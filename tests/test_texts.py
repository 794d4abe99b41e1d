"""Point 15 and the interface: the text of a world, its reader, and the table."""

import itertools
import unittest

from nextbehind.errors import BadText
from nextbehind.texts import world_table, world_text
from nextbehind.world import World
from tests.cases import (
    LETTERS, METHOD, STOPPER, WorldCase, diamond, example_world, free_world, method_world, picture, some_worlds,
    world_of,
)
from tests.samples import Plain


def lines_of(*lines):
    return "\n".join(lines)


class TextTest(WorldCase):
    def assert_text(self, world, *lines):
        text = lines_of(*lines)
        self.assertEqual(world_text(world), text)
        self.assertEqual(str(world), text)
        self.assertEqual(picture(World.read(text)), picture(world))
        self.assertIs(World.read(text) == world, True)

    def test_example(self):
        world = method_world()
        text = "class a\nmethod m | - | hi | + | bye\nclass b a\nmethod m | o | yes | + | -"
        self.assertEqual(world_text(world), text)
        self.assertEqual(world_text(world=world), text)

    def test_example_of_the_point(self):
        world = World()
        world.define("c", m=(("o",), ("u", "v"), ("q",), ()))
        self.assert_text(world, "class c", "method m | o | u v | + q | -")

    def test_empty_world(self):
        self.assertEqual((world_text(World()), str(World())), ("", ""))
        self.assertEqual(World.read(""), World())

    def test_classes(self):
        self.assert_text(world_of("b", "a b", "c", "d c a"), "class b", "class a b", "class c", "class d c a")

    def test_each_kind_of_method(self):
        for method, line in (
            (((), (), None, ()), "method m | - | - | stop | -"),
            (((), (), (), ()), "method m | - | - | + | -"),
            ((("o", "p"), ("u",), None, ()), "method m | o p | u | stop | -"),
            ((("o",), ("u", "v"), ("q",), ()), "method m | o | u v | + q | -"),
            (((), ("hi", "hi", "hi", "hi"), (), ("bye", "bye")), "method m | - | hi hi hi hi | + | bye bye"),
            ((("d", "c", "b", "a"), (), ("w", "z", "y", "x"), ("q", "q", "r", "q")),
             "method m | d c b a | - | + w z y x | q q r q"),
            ((("stop",), ("stop",), ("stop",), ("stop",)), "method m | stop | stop | + stop | stop"),
            ((("abcdefgh",), ("method",), ("class",), ("z",)), "method m | abcdefgh | method | + class | z"),
        ):
            world = World()
            world.define("a", m=method)
            self.assert_text(world, "class a", line)

    def test_methods_are_in_alphabetical_order(self):
        world = World()
        world.define("a", z=STOPPER, aa=METHOD, a=METHOD)
        world.define("b", "a", k=METHOD)
        self.assert_text(
            world, "class a", "method a | - | hi | + | bye", "method aa | - | hi | + | bye",
            "method z | o | hi | stop | -", "class b a", "method k | - | hi | + | bye",
        )

    def test_names_like_words_of_the_text(self):
        world = World()
        world.define("class", method=METHOD, stop=METHOD)
        world.define("method", "class")
        self.assert_text(world, "class class", "method method | - | hi | + | bye", "method stop | - | hi | + | bye",
                         "class method class")

    def test_texts_read_back_equal(self):
        for world in some_worlds(6, 60, 10):
            self.assert_text(world, *str(world).split("\n"))

    def test_by_name(self):
        self.assertEqual(World.read(text="class a"), world_of("a"))

    def test_a_read_world_changes_on_its_own(self):
        one, other = World.read("class a"), World.read("class a")
        one.define("b", "a")
        self.assertEqual((len(one), len(other)), (2, 1))


class ReadTest(WorldCase):
    def assert_wrong(self, number, *lines):
        """Check the number of the wrong line, also with a wrong line behind it."""
        for behind in ((), ("class zz",), ("class",), ("",), ("", "class a a")):
            error = self.assert_raises_fields(BadText, (number,), World.read, lines_of(*lines, *behind))
            self.assertIs(type(error.line), int)

    def test_example(self):
        self.assert_raises_fields(BadText, (1,), World.read, "class a b")

    def test_values_that_are_not_strings(self):
        for thing in [None, True, False, 0, 1, -1, 1.5, b"", b"class a", (), ("class a",), [], ["class a"], {},
                      {"class a": 1}, set(), World(), example_world(), Plain(), str, ...]:
            self.assert_raises_fields(BadText, (0,), World.read, thing)

    def test_lines_that_are_no_lines_of_a_text(self):
        for line in [
            " ", "a", "class", "classa", "Class a", "clas a", "klass a", "class A", "class a1", "class a_b",
            "class a.b", "class a,b", "class (a)", "class -", "class a -", "class a\t", "class\ta", "class a | b",
            "# class a", "method", "method m", "stop", "-", "|", "+", "CLASS A", "class: a", "class a:",
        ]:
            self.assert_wrong(1, line)
            self.assert_wrong(2, "class z", line)
            self.assert_wrong(3, "class y", "method m | - | - | + | -", line)

    def test_spaces_too_many(self):
        for line in [" class a", "class a ", "class  a", "  class a", "class a  ", "class a b ", "class a  b",
                     "class a b  c", " class a b c"]:
            self.assert_wrong(3, "class b", "class c", line)
        for line in [
            " method m | o | u v | + q | -", "method m | o | u v | + q | - ", "method  m | o | u v | + q | -",
            "method m  | o | u v | + q | -", "method m |  o | u v | + q | -", "method m | o  | u v | + q | -",
            "method m | o | u  v | + q | -", "method m | o | u v |  + q | -", "method m | o | u v | +  q | -",
            "method m | o | u v | + q  | -", "method m | o | u v | + q |  -", "method m | - | u | stop  | -",
            "method m | - | u |  stop | -", "method m | - | u | stop | -  ", "method m | - | u | +  | -",
            "method m | -  | u | + | -", "method m | - |  - | + | -",
        ]:
            self.assert_wrong(2, "class a", line)

    def test_spaces_too_few(self):
        for line in [
            "methodm | o | u | + q | -", "method m| o | u | + q | -", "method m |o | u | + q | -",
            "method m | o| u | + q | -", "method m | o | u | +q | -", "method m | o | u | + q |-",
            "method m|o|u|+ q|-", "method m | o | u | + q| -", "method m | o | u |+ q | -",
        ]:
            self.assert_wrong(2, "class a", line)

    def test_lines_of_methods_that_are_wrong(self):
        for line in [
            "method | o | u | + q | -", "method  | o | u | + q | -", "method m m | o | u | + q | -",
            "class m | o | u | + q | -", "Method m | o | u | + q | -", " | o | u | + q | -",
            "method m | o | u | + q", "method m | o | u | -", "method m | o | u | + q | - | -", "method m | o | u",
            "method m |  | u | + q | -", "method m | o |  | + q | -", "method m | o | u |  | -",
            "method m | o | u | + q | ", "method m | o | u | + q |", "method m | o | u | q | -",
            "method m | o | u | - | -", "method m | o | u | + - | -", "method m | o | u | + + | -",
            "method m | o | u | + stop q! | -", "method m | o | u | stop q | -", "method m | o | u | Stop | -",
            "method m | o | u | stop | bye", "method m | o | u | stop stop | -", "method m | - - | u | + q | -",
            "method m | - o | u | + q | -", "method m | o - | u | + q | -", "method m | o | - u | + q | -",
            "method m | o o | u | + q | -", "method m | o | u | + q q | -", "method m | o | u | + q | - -",
            "method m | O | u | + q | -", "method m | o | U | + q | -", "method m | o | u | + Q | -",
            "method m | o | u | + q | W", "method M | o | u | + q | -", "method - | o | u | + q | -",
            "method m | o, p | u | + q | -", "method m || o | u | + q | -", "method m | o | u | + q | - |",
            "method name | o | u | + q | -", "method self | o | u | + q | -",
            "method name | - | - | + | -", "method self | - | - | stop | -",
        ]:
            with self.subTest(line):
                self.assert_wrong(2, "class a", line)
                self.assert_wrong(3, "class a", "method a | - | - | + | -", line)

    def test_empty_lines_and_a_newline_at_the_end(self):
        self.assert_wrong(1, "", "class a")
        self.assert_wrong(2, "class a", "")
        self.assert_wrong(2, "class a", "", "class b")
        self.assert_raises_fields(BadText, (1,), World.read, "\n")
        self.assert_raises_fields(BadText, (1,), World.read, " ")
        self.assert_raises_fields(BadText, (2,), World.read, "class a\n")
        self.assert_raises_fields(BadText, (3,), World.read, str(method_world()).split("\nclass b")[0] + "\n")
        for world in (diamond(), method_world(), free_world(24)):
            many = len(str(world).split("\n"))
            self.assert_raises_fields(BadText, (many + 1,), World.read, str(world) + "\n")
            self.assert_raises_fields(BadText, (many + 1,), World.read, str(world) + "\n\n")
            self.assert_raises_fields(BadText, (1,), World.read, "\n" + str(world))

    def test_24_classes_and_25(self):
        lines = [f"class {name}" for name in LETTERS]
        self.assertEqual(World.read(lines_of(*lines[:24])), free_world(24))
        self.assert_raises_fields(BadText, (25,), World.read, lines_of(*lines[:25]))
        self.assert_raises_fields(BadText, (25,), World.read, lines_of(*lines))
        self.assert_wrong(25, *lines[:24], "class y z")
        full = lines_of(*[f"{line}\nmethod m | - | - | + | -" for line in lines[:24]])
        self.assertEqual(len(World.read(full)), 24)
        self.assert_raises_fields(BadText, (49,), World.read, full + "\nclass y")
        self.assertEqual(len(World.read(full + "\nmethod n | - | - | + | -")["x"].methods), 2)

    def test_eight_bases_and_nine(self):
        lines = [f"class {name}" for name in LETTERS[:9]]
        self.assertEqual(len(World.read(lines_of(*lines, "class z a b c d e f g h"))["z"].bases), 8)
        self.assert_wrong(10, *lines, "class z a b c d e f g h i")

    def test_three_methods_and_four(self):
        lines = ["class a", *[f"method {name} | - | - | + | -" for name in "klmn"]]
        self.assertEqual(list(World.read(lines_of(*lines[:4]))["a"].methods), ["k", "l", "m"])
        self.assert_wrong(5, *lines)
        # The next class has room again.
        self.assertEqual(len(World.read(lines_of(*lines[:4], "class b a", *lines[1:4]))["b"].methods), 3)

    def test_four_words_and_five(self):
        for line in ["method m | {} | - | + | -", "method m | - | {} | + | -", "method m | - | - | + {} | -",
                     "method m | - | - | + | {}", "method m | - | {} | stop | -", "method m | {} | - | stop | -"]:
            text = lines_of("class a", line.format("p q r s"))
            self.assertEqual(str(World.read(text)), text)
            self.assert_wrong(2, "class a", line.format("p q r s t"))

    def test_names_of_eight_and_nine_letters(self):
        for lines in (["class {}"], ["class {}", "class b {}"], ["class a", "method {} | - | - | stop | -"],
                      ["class a", "method m | {} | - | stop | -"], ["class a", "method m | - | {} | stop | -"],
                      ["class a", "method m | - | - | + {} | -"], ["class a", "method m | - | - | + | {}"]):
            text = lines_of(*lines).replace("{}", "abcdefgh")
            self.assertEqual(str(World.read(text)), text)
            number = [at for at, line in enumerate(lines, start=1) if "{}" in line][0]
            wrong = lines_of(*lines).replace("{}", "abcdefghi")
            self.assert_raises_fields(BadText, (number,), World.read, wrong)

    def test_methods_out_of_order(self):
        lines = {name: f"method {name} | - | - | + | -" for name in ("a", "aa", "b", "m")}
        for order in itertools.permutations(lines, 3):
            wrong = [at for at in (1, 2) if order[at] < order[at - 1]]
            rows = ["class z", *[lines[name] for name in order]]
            if wrong:
                self.assert_wrong(wrong[0] + 2, *rows)
            else:
                self.assertEqual(list(World.read(lines_of(*rows))["z"].methods), list(order))
        self.assert_wrong(3, "class z", lines["m"], lines["m"])
        self.assert_wrong(4, "class z", lines["b"], lines["m"], lines["aa"])
        # A fourth method out of order is reported with its own line, too.
        self.assert_wrong(5, "class z", lines["a"], lines["aa"], lines["m"], lines["b"])

    def test_the_order_begins_anew_with_each_class(self):
        text = lines_of("class y", "method m | - | - | + | -", "class z", "method a | - | - | + | -")
        self.assertEqual(str(World.read(text)), text)

    def test_a_method_ahead_of_all_classes(self):
        self.assert_wrong(1, "method m | - | - | + | -")
        self.assert_wrong(1, "method m | - | - | + | -", "class a")

    def test_classes_that_are_not_valid_there(self):
        self.assert_wrong(1, "class a a")
        self.assert_wrong(2, "class a", "class a")
        self.assert_wrong(3, "class a", "class b a", "class a b")
        self.assert_wrong(2, "class a", "class b c", "class c")
        self.assert_wrong(2, "class a", "class b a a")
        self.assert_wrong(3, "class a", "class b a", "class c a b")
        self.assert_wrong(5, "class a", "class b", "class c a b", "class d b a", "class e c d")
        self.assert_wrong(4, "class a", "method m | - | - | + | -", "class b", "class a")

    def test_the_first_wrong_line_counts(self):
        self.assert_wrong(2, "class a", "class a", "class", "method m")
        self.assert_wrong(2, "class a", "class b ", "class a")
        self.assert_wrong(3, "class a", "class b a", "class c z", "class c", "class b")

    def test_exactly_the_texts_are_accepted(self):
        """One letter added, left out or changed gives a text of another world, or none."""
        text = "class b\nmethod m | o | u v | + q | -\nclass a b\nmethod k | - | - | stop | -"
        letters = "a z|-+\nA"
        texts = [text[:at] + letter + text[at:] for at in range(len(text) + 1) for letter in letters]
        texts += [text[:at] + letter + text[at + 1:] for at in range(len(text)) for letter in letters]
        texts += [text[:at] + text[at + 1:] for at in range(len(text))]
        accepted = 0
        for changed in texts:
            try:
                world = World.read(changed)
            except BadText as error:
                self.assertTrue(1 <= error.line <= len(changed.split("\n")))
                # The lines ahead of the wrong one are the text of a world, and with it they are not.
                good = changed.split("\n")[:error.line - 1]
                self.assertEqual(str(World.read(lines_of(*good))), lines_of(*good))
                self.assert_raises_fields(
                    BadText, (error.line,), World.read, lines_of(*changed.split("\n")[:error.line]) or "\n")
            else:
                self.assertEqual(str(world), changed)
                accepted += 1
        self.assertGreater(accepted, 30)


class TableTest(WorldCase):
    def test_example(self):
        table = " 0  a          0  a\n 1  b          1  b a\n 2  c          1  c a"
        self.assertEqual(world_table(example_world()), table)
        self.assertEqual(world_table(world=example_world()), table)

    def test_empty_world(self):
        self.assertEqual(world_table(World()), "")

    def test_names_of_one_to_eight_letters(self):
        names = [LETTERS[:many] for many in range(1, 9)]
        expected = [f" {at}  {name}{' ' * (7 - at)}   0  {name}" for at, name in enumerate(names)]
        self.assertEqual(world_table(world_of(*names)).split("\n"), expected)
        self.assertEqual(expected[7], " 7  abcdefgh   0  abcdefgh")

    def test_one_digit_and_two(self):
        world = world_of("a", *[f"{name} {before}" for before, name in zip(LETTERS, LETTERS[1:24])])
        lines = world_table(world).split("\n")
        self.assertEqual(len(lines), 24)
        self.assertEqual(lines[9], " 9  j          9  j i h g f e d c b a")
        self.assertEqual(lines[10], "10  k         10  k j i h g f e d c b a")
        self.assertEqual(lines[23], "23  x         23  " + " ".join(reversed(LETTERS[:24])))

    def test_ancestors_count_once(self):
        self.assertEqual(world_table(diamond()).split("\n")[3], " 3  d          3  d b c a")

    def test_methods_do_not_matter(self):
        self.assertEqual(world_table(method_world()), " 0  a          0  a\n 1  b          1  b a")


if __name__ == "__main__":
    unittest.main()
