"""The text of a world, its reader, and a table of a world."""

from nextbehind.errors import BadBases, BadMethod, BadName, BadText, Clash, NoClass, Taken, TooMany

_METHOD_PARTS = 5


def world_text(world):
    """Return the text of a world."""
    return "\n".join(world_lines(world))


def world_lines(world):
    """Return the lines of the text of a world."""
    lines = []
    for name in world.names:
        shown = world.member(name)
        bases = shown.bases
        lines.append(" ".join(["class", name, *bases]))
        methods = shown.methods
        lines.extend([_method_line(key, methods[key]) for key in methods])
    return lines


def world_table(world):
    """Return a text with the index, the name, the number of ancestors and the linearization of each class."""
    lines = world.linearizations
    rows = []
    for index, name in enumerate(lines):
        line = lines[name]
        ancestors = len(line) - 1
        rows.append(f"{index:>2}  {name:<8}  {ancestors:>2}  {' '.join(line)}")
    return "\n".join(rows)


def read_into(world, text):
    """Define the classes of a text in a world without classes. Raise BadText for the first wrong line.

    The last class is defined anew with each line of a method: so the world tells, with its own
    errors, whether a line is valid behind the lines before it.
    """
    if not isinstance(text, str):
        raise BadText(0)
    lines = text.split("\n") if text else []
    last = None
    for number, line in enumerate(lines, start=1):
        changes = _class_changes(line) or _method_changes(line, last)
        if not changes:
            raise BadText(number)
        try:
            world.perform(*changes)
        except (BadName, BadBases, BadMethod, NoClass, Taken, TooMany, Clash):
            raise BadText(number) from None
        last = changes[-1]


def _class_changes(line):
    """Return the change of a line of a class, alone in a tuple, or () if it is another line."""
    word, *names = line.split(" ")
    if word != "class" or not names:
        return ()
    name, *bases = names
    return (("define", name, tuple(bases), {}),)


def _method_changes(line, last):
    """Return the changes of a line of a method behind the last definition, or () if it is not valid there."""
    name, method = _read_method(line)
    if method is None or last is None:
        return ()
    _, label, bases, methods = last
    if any([name <= key for key in methods]):
        return ()
    return (("remove", label), ("define", label, bases, {**methods, name: method}))


def _read_method(line):
    """Return the name and the method of a line, which may be wrong, or None for both if it is another line."""
    parts = line.split(" | ")
    if len(parts) != _METHOD_PARTS:
        return (None, None)
    head, takes, before, third, after = parts
    word, _, name = head.partition(" ")
    sign, *passes = third.split(" ")
    if word != "method" or (third != "stop" and sign != "+"):
        return (None, None)
    added = tuple(passes) if sign == "+" else None
    return (name, (_read_part(takes), _read_part(before), added, _read_part(after)))


def _read_part(part):
    return () if part == "-" else tuple(part.split(" "))


def _method_line(name, method):
    takes, before, passes, after = method
    third = "stop" if passes is None else " ".join(["+", *passes])
    return " | ".join([f"method {name}", _part(takes), _part(before), third, _part(after)])


def _part(names):
    return " ".join(names) or "-"
