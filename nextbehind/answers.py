"""Answers and the reasons in them. They are made without checks, so that a wrong one can be judged, too."""

from nextbehind.errors import BadSteps


class Reason:
    """The base of the reasons why something is not possible."""


class Chain(Reason):
    """Steps (x, y, c), each from x, which is ahead of y in the linearization of c, on to y."""

    def __init__(self, steps):
        self.steps = steps

    def __eq__(self, other):
        return type(self) is type(other) and self.steps == other.steps

    def __len__(self):
        return len(self.steps)

    def __add__(self, other):
        return Chain(_joined_steps(self, other))

    def show(self):
        """Return a line for each step."""
        return _step_lines(self)


class Through(Chain):
    """A chain that passes the class of the given name."""

    def __init__(self, steps, name):
        self.steps = steps
        self.name = name

    def __eq__(self, other):
        return type(self) is type(other) and self.steps == other.steps and self.name == other.name

    def __len__(self):
        return len(self.steps)

    def __add__(self, other):
        return Chain(_joined_steps(self, other))

    def show(self):
        """Return the lines of the chain and the class that it passes."""
        return [*_step_lines(self), f"passes {self.name}"]


class Ring(Chain):
    """A chain from some class to itself."""

    def __init__(self, steps):
        self.steps = steps

    def __eq__(self, other):
        return type(self) is type(other) and self.steps == other.steps

    def __len__(self):
        return len(self.steps)

    def __add__(self, other):
        return Chain(_joined_steps(self, other))

    def show(self):
        """Return the lines of the chain, marked as a ring."""
        return [*_step_lines(self), "ring"]


class Answer:
    """The base of the answers."""


class Can(Answer):
    """Something is possible: in this future."""

    def __init__(self, future):
        self.future = future

    def __eq__(self, other):
        return type(self) is type(other) and self.future == other.future

    def __bool__(self):
        return True

    def show(self):
        """Return one line with the future."""
        return [_future_line(self)]


class Stopped(Can):
    """A class is not always reached: in this future the stopper of the given name is ahead of it."""

    def __init__(self, future, name):
        self.future = future
        self.name = name

    def __eq__(self, other):
        return type(self) is type(other) and self.future == other.future and self.name == other.name

    def __bool__(self):
        return False

    def show(self):
        """Return a line with the future and a line with the stopper."""
        return [_future_line(self), f"stopper {self.name}"]


class Cannot(Answer):
    """Something is not possible, for this reason."""

    def __init__(self, reason):
        self.reason = reason

    def __eq__(self, other):
        return type(self) is type(other) and self.reason == other.reason

    def __bool__(self):
        return False

    def show(self):
        """Return the lines of the reason behind a line of the answer."""
        return ["cannot", *self.reason.show()]


class Always(Answer):
    """A class is always reached: for each stopper there is a pair (name, reason) why it does not stand ahead."""

    def __init__(self, reasons):
        self.reasons = reasons

    def __eq__(self, other):
        return type(self) is type(other) and self.reasons == other.reasons

    def __bool__(self):
        return True

    def show(self):
        """Return the lines of each stopper and its reason behind a line of the answer."""
        lines = ["always"]
        for name, reason in self.reasons:
            lines.append(f"stopper {name}")
            lines.extend(reason.show())
        return lines


def _joined_steps(one, other):
    """Return the steps of both chains. Raise BadSteps unless the second goes on where the first ends."""
    if not one.steps or not other.steps or one.steps[-1][1] != other.steps[0][0]:
        raise BadSteps("the second chain does not go on where the first ends")
    return (*one.steps, *other.steps)


def _step_lines(chain):
    return [f"{x} ahead of {y} in {c}" for x, y, c in chain.steps]


def _future_line(answer):
    return " ".join(["future", *answer.future])
