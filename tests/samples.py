"""Values of many kinds, for functions that accept every value."""


class Plain:
    """An object that is nothing else."""


def no_names():
    """Return values that are not names, whatever their kind."""
    return [
        None, True, False, 0, 1, -1, 10 ** 999, 1.5, 2j, b"a", b"", bytearray(b"a"),
        [], ["a"], (), ("a",), {}, {"a": 1}, set(), {"a"}, frozenset(), range(3), Plain, Plain(), len, ...,
        "", " ", "A", "Box", "aB", "a b", " a", "a ", "a\n", "\n", "\t", "a1", "1", "a_b", "_", "-", "a-b", "a.b",
        "{", "`", "az{", "~", "abcdefghi", "a" * 20000,
    ]


def no_tuples():
    """Return values that are not tuples, whatever their kind."""
    return [
        None, True, False, 0, 1, -7, 10 ** 999, 1.5, "", "a", "ab", "abcd", b"ab",
        [], ["a"], ["a", "b"], [(), (), None, ()], {}, {"a": 1}, {0: "a"}, set(), {"a"}, frozenset(["a"]),
        range(0), range(4), Plain, Plain(), len, ...,
    ]
