"""Point 16: the errors, their fields and their bases."""

import inspect
import unittest

from nextbehind import errors

BASES = {
    "WorldError": ValueError,
    "LimitError": ArithmeticError,
    "MissingError": LookupError,
    "CallError": RuntimeError,
}

FIELDS = {
    "BadName": ("WorldError", ("reason",)),
    "BadBases": ("WorldError", ("reason",)),
    "BadMethod": ("WorldError", ("name",)),
    "BadTuple": ("WorldError", ("index",)),
    "BadNames": ("WorldError", ("reason",)),
    "BadFuture": ("WorldError", ("reason",)),
    "BadOptions": ("WorldError", ("reason",)),
    "BadIndex": ("WorldError", ("reason",)),
    "BadSteps": ("WorldError", ("reason",)),
    "BadChange": ("WorldError", ("index",)),
    "BadText": ("WorldError", ("line",)),
    "TooMany": ("LimitError", ("limit",)),
    "Clash": ("LimitError", ("name", "tuples", "steps")),
    "Taken": ("LimitError", ("name",)),
    "InUse": ("LimitError", ("name", "user")),
    "NoClass": ("MissingError", ("name",)),
    "NoMethod": ("MissingError", ("name", "method")),
    "Wanted": ("CallError", ("name", "option")),
    "Twice": ("CallError", ("name", "option")),
    "Unasked": ("CallError", ("options",)),
}


class Odd:
    """A value that cannot be compared, hashed, measured or shown."""

    __hash__ = None

    def __eq__(self, other):
        raise AssertionError("compared")

    def __bool__(self):
        raise AssertionError("tested")

    def __len__(self):
        raise AssertionError("measured")

    def __str__(self):
        raise AssertionError("shown")

    def __repr__(self):
        raise AssertionError("shown")


def error_class(name):
    return getattr(errors, name)


def some_values(fields):
    """Values of each field: every error class must take any of them."""
    yield [Odd() for _ in fields]
    yield [None for _ in fields]
    yield [[field] for field in fields]
    yield [{"a": field} for field in fields]
    yield [(field, 1) for field in fields]
    yield [field for field in fields]


class ErrorsTest(unittest.TestCase):
    def assert_fields(self, error, fields, values):
        for field, value in zip(fields, values):
            self.assertIs(getattr(error, field), value)
        self.assertEqual(sorted(vars(error)), sorted(fields))

    def test_fields_by_position(self):
        for name, (_, fields) in FIELDS.items():
            for values in some_values(fields):
                with self.subTest(name):
                    self.assert_fields(error_class(name)(*values), fields, values)

    def test_fields_by_name(self):
        for name, (_, fields) in FIELDS.items():
            for values in some_values(fields):
                with self.subTest(name):
                    self.assert_fields(error_class(name)(**dict(zip(fields, values))), fields, values)

    def test_fields_by_name_in_another_order(self):
        for name, (_, fields) in FIELDS.items():
            values = [[field] for field in fields]
            turned = dict(reversed(list(zip(fields, values))))
            with self.subTest(name):
                self.assert_fields(error_class(name)(**turned), fields, values)

    def test_fields_by_position_and_by_name(self):
        for name, (_, fields) in FIELDS.items():
            values = [[field] for field in fields]
            with self.subTest(name):
                rest = dict(zip(fields[1:], values[1:]))
                self.assert_fields(error_class(name)(values[0], **rest), fields, values)

    def test_no_field_is_left_out_or_added(self):
        for name, (_, fields) in FIELDS.items():
            with self.subTest(name):
                self.assertRaises(TypeError, error_class(name), *fields[1:])
                self.assertRaises(TypeError, error_class(name), *fields, "more")
                self.assertRaises(TypeError, error_class(name), *fields, more=1)

    def test_fields_survive_raise(self):
        for name, (_, fields) in FIELDS.items():
            values = [[field] for field in fields]
            with self.subTest(name):
                with self.assertRaises(error_class(name)) as caught:
                    raise error_class(name)(*values)
                self.assert_fields(caught.exception, fields, values)

    def test_bases(self):
        for name, builtin in BASES.items():
            with self.subTest(name):
                self.assertEqual(error_class(name).__bases__, (builtin,))

    def test_each_error_has_its_base_alone(self):
        for name, (base, _) in FIELDS.items():
            with self.subTest(name):
                self.assertTrue(issubclass(error_class(name), error_class(base)))
                self.assertTrue(issubclass(error_class(name), BASES[base]))
                others = [other for other in [*BASES, *FIELDS] if other not in (name, base)]
                for other in others:
                    self.assertFalse(issubclass(error_class(name), error_class(other)), other)

    def test_no_base_is_another_builtin_base(self):
        for name, builtin in BASES.items():
            for other in [value for value in BASES.values() if value is not builtin]:
                with self.subTest(name):
                    self.assertFalse(issubclass(error_class(name), other))

    def test_these_are_all_and_defined_here(self):
        found = dict(inspect.getmembers(errors, inspect.isclass))
        self.assertEqual(sorted(found), sorted([*BASES, *FIELDS]))
        for name, value in found.items():
            self.assertEqual(value.__module__, "nextbehind.errors", name)


if __name__ == "__main__":
    unittest.main()
