"""What the tests of the questions and of the checks share: worlds, questions about them, and what is refused."""

import itertools

from nextbehind.checks import check_ahead, check_always, check_behind, check_join, check_sometimes
from nextbehind.errors import BadName, BadNames, NoClass, NoMethod
from nextbehind.questions import ahead, always, behind, join, sometimes
from nextbehind.world import World
from tests.cases import METHOD, STOPPER, called_worlds, diamond, example_world, method_world, torn_world, world_of
from tests.samples import no_names

QUESTIONS = {"join": join, "ahead": ahead, "behind": behind, "always": always, "sometimes": sometimes}
CHECKS = {
    "join": check_join, "ahead": check_ahead, "behind": check_behind, "always": check_always,
    "sometimes": check_sometimes,
}


def world_with(stoppers, passing, *lines):
    """Return a world from lines as world_of takes them: some of its classes have a method m."""
    world = World()
    for line in lines:
        name, *bases = line.split()
        method = STOPPER if name in stoppers.split() else METHOD
        methods = {"m": method} if name in (stoppers + " " + passing).split() else {}
        world.define(name, *bases, **methods)
    return world


def torn_in_three():
    """A world in which each two of x, y and z can be joined, but not all three."""
    return world_of("a", "b", "c", "x a b", "y b c", "z c a")


def small_worlds():
    """Worlds of at most six classes: small enough for searches by the words."""
    return [
        World(), example_world(), diamond(), method_world(), torn_world(), torn_in_three(),
        world_with("a", "b d e", "a", "b", "d a b", "e b a"),
        world_with("s t", "a x", "a", "s a", "t", "x s t", "u", "v"),
        world_with("s t u", "x", "x", "s", "t x", "u s", "v x s", "w s x"),
        world_with("b", "a c d", "a", "b a", "c b", "d c", "e a"),
        world_with("", "a c d", "a", "b a", "c b", "d"),
        *called_worlds(31, 20, 6),
    ]


def questions_of(world):
    """Return all questions about a small world that are not refused, as (word, arguments, keywords)."""
    names = world.names
    having = [name for name in names if "m" in world[name].methods]
    asked = [("join", some, {}) for many in (1, 2, 3) for some in itertools.combinations(names, many)]
    asked += [("join", some[::-1], {}) for some in itertools.combinations(names, 3)]
    for pair in itertools.permutations(names, 2):
        asked += [("ahead", pair, {}), ("behind", pair, {}), ("behind", pair, {"method": None})]
    asked += [("behind", pair, {"method": "m"}) for pair in itertools.permutations(having, 2)]
    for name in having:
        others = [other for other in names if other != name]
        for some in [some for many in (0, 1, 2) for some in itertools.combinations(others, many)]:
            asked += [("always", (name, "m", *some), {}), ("sometimes", (name, "m", *some[::-1]), {})]
    return asked


def refusing_world():
    """A world in which the classes c and d have no method m."""
    return world_with("b", "a", "a", "b a", "c a", "d")


def refusals():
    """Return what all questions about that world refuse, as (word, arguments, keywords, error, fields)."""
    return _refused_by_join() + _refused_of_two() + _refused_neighbours() + _refused_reached()


def _refused_by_join():
    refused = [((), BadNames, None)]
    for thing in no_names():
        refused += [((thing,), BadName, None), (("z", "a", "a", thing), BadName, None)]
    refused += [(names, BadNames, None) for names in (("a", "a"), ("z", "z"), ("z", "a", "b", "a"))]
    refused += [(("z",), NoClass, ("z",)), (("a", "z", "y"), NoClass, ("z",))]
    return [("join", names, {}, error, fields) for names, error, fields in refused]


def _refused_of_two():
    refused = []
    for thing in no_names():
        refused += [((thing, "a"), BadName, None), ((thing, thing), BadName, None), ((thing, "z"), BadName, None),
                    (("a", thing), BadName, None), (("z", thing), NoClass, ("z",))]
    refused += [(("z", "a"), NoClass, ("z",)), (("a", "z"), NoClass, ("z",)), (("z", "y"), NoClass, ("z",)),
                (("z", "z"), NoClass, ("z",)), (("a", "a"), BadNames, None), (("c", "c"), BadNames, None)]
    alone = [(word, pair, {}, error, fields) for word in ("ahead", "behind") for pair, error, fields in refused]
    # What comes first is refused first, whatever the method is.
    return alone + [("behind", pair, {"method": method}, error, fields) for pair, error, fields in refused
                    for method in ("m", "q")]


def _refused_neighbours():
    refused = []
    for thing in no_names():
        if thing is not None:
            refused += [(("a", "b"), thing, BadName, None), (("a", "a"), thing, BadName, None),
                        (("c", "d"), thing, BadName, None), (("a", "z"), thing, NoClass, ("z",)),
                        (("z", "a"), thing, NoClass, ("z",))]
    refused += [(("a", "c"), "m", NoMethod, ("c", "m")), (("c", "b"), "m", NoMethod, ("c", "m")),
                (("c", "d"), "m", NoMethod, ("c", "m")), (("d", "c"), "m", NoMethod, ("d", "m")),
                (("b", "a"), "q", NoMethod, ("b", "q")), (("a", "a"), "q", BadNames, None)]
    return [("behind", pair, {"method": method}, error, fields) for pair, method, error, fields in refused]


def _refused_reached():
    refused = []
    for thing in no_names():
        refused += [
            ((thing, "m"), BadName, None), ((thing, None, "z"), BadName, None),
            (("a", thing), BadName, None), (("z", thing), NoClass, ("z",)), (("c", thing), BadName, None),
            (("a", thing, "z", "z"), BadName, None), (("a", "m", thing), BadName, None),
            (("a", "m", "z", "b", "b", "a", thing), BadName, None), (("c", "m", thing), BadName, None),
            (("z", "m", thing), NoClass, ("z",)),
        ]
    refused += [(("a", "m", *others), BadNames, None) for others in
                (("b", "b"), ("a",), ("b", "a"), ("z", "a"), ("z", "z"), ("z", "b", "c", "b"))]
    refused += [
        (("z", "m"), NoClass, ("z",)), (("z", "m", "z"), NoClass, ("z",)),
        (("a", "m", "z"), NoClass, ("z",)), (("a", "m", "b", "z", "y"), NoClass, ("z",)),
        (("c", "m"), NoMethod, ("c", "m")), (("c", "m", "a", "b"), NoMethod, ("c", "m")),
        (("a", "q"), NoMethod, ("a", "q")), (("c", "m", "z"), NoClass, ("z",)), (("c", "m", "c"), BadNames, None),
    ]
    return [(word, names, {}, error, fields) for word in ("always", "sometimes") for names, error, fields in refused]
