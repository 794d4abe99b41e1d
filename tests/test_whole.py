"""What the document promises over the whole program: its parts agree with each other."""

import random
import unittest

from nextbehind import answers, errors
from nextbehind.answers import Always, Can, Cannot, Chain, Ring, Stopped
from nextbehind.calls import Caller, call, call_class, first_refused, first_said, first_unsaid
from nextbehind.checks import check_behind, check_join, check_sometimes
from nextbehind.errors import BadNames, CallError, Clash, MissingError
from nextbehind.futures import base_orders, closure, count, futures, is_future, nth, place
from nextbehind.growing import grown
from nextbehind.merging import is_clash, merged
from nextbehind.methods import is_method, is_stopper
from nextbehind.names import is_name, is_row
from nextbehind.questions import behind, join, sometimes
from nextbehind.texts import world_table, world_text
from nextbehind.world import World
from tests.asked import CHECKS, QUESTIONS, questions_of, small_worlds
from tests.cases import LETTERS, METHOD, WorldCase, called_worlds, example_world, method_world, picture
from tests.samples import Plain

OPTIONS = [(), ("o",), ("p", "q")]
FIELDS = {
    "BadName": ("reason",), "BadBases": ("reason",), "BadMethod": ("name",), "BadTuple": ("index",),
    "BadNames": ("reason",), "BadFuture": ("reason",), "BadOptions": ("reason",), "BadIndex": ("reason",),
    "BadSteps": ("reason",), "BadChange": ("index",), "BadText": ("line",), "TooMany": ("limit",),
    "Clash": ("name", "tuples", "steps"), "Taken": ("name",), "InUse": ("name", "user"), "NoClass": ("name",),
    "NoMethod": ("name", "method"), "Wanted": ("name", "option"), "Twice": ("name", "option"), "Unasked": ("options",),
}


def end_of(function, *values):
    """Return what a call returns, or the class and the fields of its error."""
    try:
        return function(*values)
    except (CallError, MissingError) as error:
        return (type(error), vars(error))


def all_results(world):
    """Return the results of many functions about a world, those that do not depend on the names of other classes."""
    found = [(word, values, QUESTIONS[word](world, *values, **more)) for word, values, more in questions_of(world)]
    for name in world.names:
        found += [(name, end_of(call_class, world, name, "m", *options)) for options in OPTIONS]
        found += [(name, closure(world, name), count(world, name), nth(world, 0, name))]
    pairs = [(one, other) for one in world.names for other in world.names if one < other]
    for pair in pairs:
        found += [(pair, list(futures(world, *pair)), count(world, *pair), list(base_orders(world, *pair)))]
        for options in OPTIONS:
            found += [end_of(first_refused, world, "m", options, *pair), end_of(first_said, world, "hi", "m", options, *pair),
                      end_of(first_unsaid, world, "hi", "m", options, *pair)]
    return found


def sort_of(answer):
    """Return what does not depend on the order of definition."""
    if type(answer) is Always:
        return (Always, sorted((name, type(reason), len(reason)) for name, reason in answer.reasons))
    if type(answer) is Cannot:
        return (Cannot, type(answer.reason), len(answer.reason))
    return (type(answer),)


def defined_anew(source, world):
    """Return a world with the same classes in another order of definition."""
    other = World()
    left = list(world.names)
    while left:
        name = source.choice([name for name in left if all(base in other for base in world[name].bases)])
        other.define(name, *world[name].bases, **world[name].methods)
        left.remove(name)
    return other


class AgreementTest(WorldCase):
    def test_answers_are_accepted_in_larger_worlds(self):
        many = 0
        for world in called_worlds(61, 6, 14):
            having = [name for name in world.names if "m" in world[name].methods]
            source = random.Random(many)
            for _ in range(40):
                others = source.sample([name for name in world.names if name != having[0]], 3)
                asked = [("join", others, {}), ("ahead", others[:2], {}), ("behind", others[:2], {}),
                         ("behind", source.sample(having, 2), {"method": "m"}),
                         ("always", (having[0], "m", *others), {}), ("sometimes", (having[0], "m", *others), {})]
                for word, values, more in asked:
                    answer = QUESTIONS[word](world, *values, **more)
                    self.assertIs(CHECKS[word](world, answer, *values, **more), True)
                    if isinstance(answer, Can):
                        self.assertTrue(is_future(world, answer.future))
                        many += 1
        self.assertGreater(many, 300)

    def test_what_can_be_so_is_so_in_a_class_that_is_defined_later(self):
        for world in small_worlds():
            for word, values, more in questions_of(world):
                answer = QUESTIONS[word](world, *values, **more)
                if isinstance(answer, Can):
                    with world.trial():
                        line = world.define("later", *answer.future)
                        self.assertEqual(line[1:], answer.future)
                        for options in OPTIONS:
                            self.assertEqual(end_of(call_class, world, "later", "m", *options),
                                             end_of(call, world, answer.future, "m", *options))
                        if word != "always":
                            self.assertIs(CHECKS[word](world, Can(line), *values, **more), True)
                        else:
                            self.assertIs(CHECKS[word](world, Stopped(line, answer.name), *values, **more), True)

    def test_calls_on_classes_of_grown_worlds(self):
        for world in called_worlds(62, 12, 5):
            for future in futures(world, *world.names[:4]):
                later, name = grown(world, future)
                for options in OPTIONS:
                    self.assertEqual(end_of(call_class, later, name, "m", *options),
                                     end_of(call, world, future, "m", *options))
                line = later[name].linearization
                self.assertTrue(is_future(later, line))
                self.assertTrue(is_future(later, future))

    def test_linearizations_of_later_classes_are_futures(self):
        source = random.Random(63)
        for world in called_worlds(63, 20, 10):
            old = world.names
            for name in ("x" + letter for letter in LETTERS[:6]):
                bases = source.sample(world.names, source.randint(0, 3))
                try:
                    line = world.define(name, *bases, m=METHOD)
                except Clash as clash:
                    self.assertTrue(is_clash(clash.tuples, clash.steps))
                else:
                    self.assertTrue(is_future(world, tuple(label for label in line if label in old)))

    def test_what_always_says_is_so_in_all_futures(self):
        for world in called_worlds(64, 20, 6):
            for name in world.names:
                if "m" in world[name].methods:
                    answer = QUESTIONS["always"](world, name, "m")
                    stoppers = [label for label in world.names if "m" in world[label].methods
                                and is_stopper(world[label].methods["m"]) and label != name]
                    ahead = [stopper for stopper in stoppers for future in futures(world, name, stopper)
                             if name != stopper and future.index(stopper) < future.index(name)]
                    self.assertEqual(bool(answer), not ahead)

    def test_a_class_is_reached_where_a_call_says_its_word(self):
        for world in called_worlds(65, 20, 5):
            plain = World()
            for name in world.names:
                methods = {}
                if "m" in world[name].methods:
                    stops = is_stopper(world[name].methods["m"])
                    methods = {"m": ((), (name,), None if stops else (), ())}
                plain.define(name, *world[name].bases, **methods)
            for name in plain.names:
                if plain[name].methods:
                    for others in ((), tuple(label for label in plain.names[-2:] if label != name)):
                        said = first_said(plain, name, "m", (), name, *others)
                        answer = sometimes(plain, name, "m", *others)
                        self.assertEqual(said is not None, bool(answer))
                        if said is not None:
                            self.assertIs(check_sometimes(plain, Can(said), name, "m", *others), True)
                            self.assertIn(name, call(plain, answer.future, "m"))

    def test_each_place_of_a_future_is_directly_behind_the_one_before(self):
        for world in called_worlds(66, 10, 6):
            for name in world.names:
                line = world[name].linearization
                for one, other in zip(line, line[1:]):
                    self.assertIs(check_behind(world, Can(line), one, other), True)
                    self.assertTrue(behind(world, one, other))


class EqualWorldsTest(WorldCase):
    def test_worlds_that_were_read_from_a_text(self):
        for world in [*small_worlds()[1:11], *called_worlds(67, 6, 6)]:
            expected = all_results(world)
            again = World.read(world_text(world))
            self.assertEqual(all_results(again), expected)
            self.assertEqual(all_results(world.copy()), expected)
            self.assertEqual(all_results(world), expected)
            self.assertEqual(again, world)

    def test_nothing_changes_a_world(self):
        for world in called_worlds(68, 6, 6):
            ahead = picture(world)
            all_results(world)
            for word, values, more in questions_of(world)[::7]:
                CHECKS[word](world, Can(world.names), *values, **more)
            self.assertEqual(picture(world), ahead)

    def test_results_that_are_changed(self):
        world = method_world()
        answer = sometimes(world, "a", "m", "b")
        answer.future = ()
        self.assertEqual(sometimes(world, "a", "m", "b"), Can(("b", "a")))
        later, _ = grown(world, ("a",))
        later.define("z", "b")
        self.assertNotIn("z", grown(world, ("a",))[0])

    def test_the_order_of_definition_changes_orders_alone(self):
        source = random.Random(69)
        for world in [*small_worlds()[1:11], *called_worlds(69, 8, 6)]:
            other = defined_anew(source, world)
            self.assertEqual(other.linearizations, world.linearizations)
            for word, values, more in questions_of(world):
                answer, second = [QUESTIONS[word](one, *values, **more) for one in (world, other)]
                self.assertEqual(sort_of(second), sort_of(answer))
                if type(answer) is not Always:
                    self.assertIs(CHECKS[word](other, answer, *values, **more), True)
            for one, two in zip(world.names, world.names[1:]):
                self.assertEqual(sorted(futures(other, one, two)), sorted(futures(world, one, two)))
                self.assertEqual(count(other, one, two), count(world, one, two))
                self.assertEqual(sorted(closure(other, one, two)), sorted(closure(world, one, two)))
                for options in OPTIONS:
                    found = [end_of(first_refused, some, "m", options, one, two) for some in (world, other)]
                    self.assertEqual(found[0] is None, found[1] is None)
            for name in world.names:
                for options in OPTIONS:
                    self.assertEqual(end_of(call_class, other, name, "m", *options),
                                     end_of(call_class, world, name, "m", *options))

    def test_a_further_class_changes_no_answer(self):
        for world in [*small_worlds()[1:11], *called_worlds(70, 6, 6)]:
            asked = questions_of(world)
            expected = [QUESTIONS[word](world, *values, **more) for word, values, more in asked]
            larger = World()
            larger.define("ahead", talk=METHOD)
            for name in world.names:
                larger.define(name, *world[name].bases, **world[name].methods)
            larger.define("behind", "ahead", talk=((), (), None, ()), m=METHOD)
            self.assertEqual([QUESTIONS[word](larger, *values, **more) for word, values, more in asked], expected)
            for (word, values, more), answer in zip(asked, expected):
                self.assertIs(CHECKS[word](larger, answer, *values, **more), True)
            for name in world.names:
                self.assertEqual(list(futures(larger, name)), list(futures(world, name)))
                self.assertEqual(end_of(call_class, larger, name, "m"), end_of(call_class, world, name, "m"))


class ByNameTest(WorldCase):
    """Every function, method and class, with its parameters passed by name."""

    def test_functions_of_things(self):
        self.assertIs(is_name(thing="a"), True)
        self.assertIs(is_row(thing=("a",)), True)
        self.assertIs(is_method(thing=METHOD), True)
        self.assertIs(is_stopper(method=METHOD), False)
        self.assertIs(is_clash(tuples=(("b", "a"), ("a", "b")), thing=(("b", "a", 0), ("a", "b", 1))), True)
        self.assertIs(is_future(world=example_world(), thing=("b", "a")), True)
        self.assertEqual(merged(), ())

    def test_functions_of_worlds(self):
        world = example_world()
        self.assertEqual(world_text(world=world), str(world))
        self.assertEqual(world_table(world=world), world_table(world))
        self.assertEqual(grown(world=world, future=()), grown(world, ()))

    def test_functions_with_names_raise_bad_names_where_none_are_passed(self):
        world = method_world()
        refused = [
            (closure, {}), (count, {}), (nth, {"index": 0}), (place, {"future": ()}), (join, {}),
            (check_join, {"thing": Can(())}), (first_refused, {"method": "m", "options": ()}),
            (first_said, {"word": "hi", "method": "m", "options": ()}),
            (first_unsaid, {"word": "hi", "method": "m", "options": ("o",)}),
            (lambda world: list(futures(world=world)), {}),
        ]
        for function, more in refused:
            self.assert_raises_fields(BadNames, None, function, world=world, **more)
        self.assertEqual(list(base_orders(world=world)), [((), ())])
        self.assertEqual(world, method_world())

    def test_questions_and_checks(self):
        world = method_world()
        for word, values in (("ahead", {"one": "b", "other": "a"}), ("behind", {"other": "a", "one": "b"}),
                             ("behind", {"one": "a", "other": "b", "method": None}),
                             ("behind", {"one": "b", "other": "a", "method": "m"}),
                             ("always", {"method": "m", "name": "a"}), ("sometimes", {"name": "b", "method": "m"})):
            answer = QUESTIONS[word](world=world, **values)
            self.assertIs(CHECKS[word](world=world, thing=answer, **values), True)

    def test_calls(self):
        world = method_world()
        self.assertEqual(call(world=world, future=("a",), method="m"), ["hi", "bye"])
        self.assertEqual(call_class(world=world, name="a", method="m"), ["hi", "bye"])
        caller = Caller(world=world, method="m")
        self.assertEqual((caller(future=("b", "a"), options=("o",)), caller.on(name="a")),
                         (["yes", "hi", "bye"], ["hi", "bye"]))

    def test_worlds(self):
        world = World.read(text="class a")
        self.assertEqual(world.define(name="b", m=METHOD), ("b",))
        self.assertEqual(world.member(name="b").label, "b")
        self.assertIsNone(world.remove(name="b"))
        self.assertEqual((world.names, len(World.empty()), world.perform(), world.rehearse()), (("a",), 0, [], []))

    def test_errors(self):
        for name, fields in FIELDS.items():
            values = [Plain() for _ in fields]
            for made in (getattr(errors, name)(*values), getattr(errors, name)(**dict(zip(fields, values)))):
                self.assertEqual([getattr(made, field) for field in fields], values)

    def test_answers(self):
        made = {"Chain": ("steps",), "Through": ("steps", "name"), "Ring": ("steps",), "Can": ("future",),
                "Stopped": ("future", "name"), "Cannot": ("reason",), "Always": ("reasons",)}
        for name, fields in made.items():
            values = [(at, "a") for at, _ in enumerate(fields)]
            kind = getattr(answers, name)
            self.assertEqual(kind(**dict(zip(fields, values))), kind(*values))
        self.assertEqual(Cannot(reason=Ring(steps=())), Cannot(Ring(())))
        self.assertNotEqual(Cannot(reason=Ring(steps=())), Cannot(Chain(())))


if __name__ == "__main__":
    unittest.main()
