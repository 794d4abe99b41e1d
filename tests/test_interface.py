"""The interface of DOC.md: names and arguments, each defined in the file under which it is listed."""

import ast
import importlib
import inspect
import pathlib
import unittest

PACKAGE = pathlib.Path(__file__).resolve().parent.parent / "nextbehind"

FUNCTIONS = {
    "names": {"is_name": "(thing)", "is_row": "(thing)"},
    "methods": {"is_method": "(thing)", "is_stopper": "(method)"},
    "merging": {"merged": "(*tuples)", "is_clash": "(tuples, thing)"},
    "texts": {"world_text": "(world)", "world_table": "(world)"},
    "futures": {
        "closure": "(world, *names)", "is_future": "(world, thing)", "futures": "(world, *names)",
        "count": "(world, *names)", "nth": "(world, index, *names)", "place": "(world, future, *names)",
        "base_orders": "(world, *names)",
    },
    "growing": {"grown": "(world, future)"},
    "questions": {
        "join": "(world, *names)", "ahead": "(world, one, other)", "behind": "(world, one, other, *, method=None)",
        "always": "(world, name, method, *others)", "sometimes": "(world, name, method, *others)",
    },
    "checks": {
        "check_join": "(world, thing, *names)", "check_ahead": "(world, thing, one, other)",
        "check_behind": "(world, thing, one, other, *, method=None)",
        "check_always": "(world, thing, name, method, *others)",
        "check_sometimes": "(world, thing, name, method, *others)",
    },
    "calls": {
        "call": "(world, future, method, *options)", "call_class": "(world, name, method, *options)",
        "first_refused": "(world, method, options, *names)",
        "first_said": "(world, word, method, options, *names)",
        "first_unsaid": "(world, word, method, options, *names)",
    },
}

CHAIN = {"__init__": "(self, steps)", "show": "(self)", "__eq__": None, "__add__": None, "__len__": None}
ANSWER = {"show": "(self)", "__eq__": None, "__bool__": None}

METHODS = {
    "answers": {
        "Reason": {},
        "Chain": CHAIN,
        "Through": {**CHAIN, "__init__": "(self, steps, name)"},
        "Ring": CHAIN,
        "Answer": {},
        "Can": {**ANSWER, "__init__": "(self, future)"},
        "Stopped": {**ANSWER, "__init__": "(self, future, name)"},
        "Cannot": {**ANSWER, "__init__": "(self, reason)"},
        "Always": {**ANSWER, "__init__": "(self, reasons)"},
    },
    "world": {
        "World": {
            "empty": "()", "read": "(text)", "define": "(self, name, *bases, **methods)", "remove": "(self, name)",
            "member": "(self, name)", "perform": "(self, *changes)", "rehearse": "(self, *changes)",
            "trial": "(self)", "copy": "(self)", "names": None, "linearizations": None, "__len__": None,
            "__contains__": None, "__getitem__": None, "__eq__": None, "__str__": None,
        },
        "Member": {"label": None, "bases": None, "linearization": None, "methods": None},
    },
    "calls": {
        "Caller": {"__init__": "(self, world, method)", "__call__": "(self, future, options=())",
                   "on": "(self, name, *options)", "many": None},
    },
}


def module_of(name):
    return importlib.import_module(f"nextbehind.{name}")


def defined_in(name):
    """Return the names that a file defines by def and class at its top."""
    tree = ast.parse((PACKAGE / f"{name}.py").read_text(encoding="utf-8"))
    return {node.name for node in tree.body if isinstance(node, (ast.FunctionDef, ast.ClassDef))}


class InterfaceTest(unittest.TestCase):
    def test_functions(self):
        for name, functions in FUNCTIONS.items():
            for function, arguments in functions.items():
                with self.subTest(f"{name}.{function}"):
                    self.assertIn(function, defined_in(name))
                    self.assertEqual(str(inspect.signature(getattr(module_of(name), function))), arguments)

    def test_classes_and_their_own_methods(self):
        for name, classes in METHODS.items():
            for label, methods in classes.items():
                self.assertIn(label, defined_in(name))
                kind = getattr(module_of(name), label)
                for method, arguments in methods.items():
                    with self.subTest(f"{label}.{method}"):
                        self.assertIn(method, vars(kind))
                        if arguments is not None:
                            self.assertEqual(str(inspect.signature(getattr(kind, method))), arguments)

    def test_generators(self):
        for function in ("futures", "base_orders"):
            self.assertTrue(inspect.isgeneratorfunction(getattr(module_of("futures"), function)))

    def test_kinds_of_members(self):
        world = module_of("world")
        self.assertIsInstance(vars(world.World)["empty"], staticmethod)
        self.assertIsInstance(vars(world.World)["read"], classmethod)
        for name in ("names", "linearizations"):
            self.assertIsInstance(vars(world.World)[name], property)
        for name in METHODS["world"]["Member"]:
            self.assertIsInstance(vars(world.Member)[name], property)
        self.assertIsNotNone(vars(world.Member)["bases"].fset)
        self.assertIsInstance(vars(module_of("calls").Caller)["many"], property)


if __name__ == "__main__":
    unittest.main()
