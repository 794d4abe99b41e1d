"""The measures of ../shared/LANGUAGE.md that a test can read off the files (L1, L2, L10, L14)."""

import ast
import pathlib
import unittest

PACKAGE = pathlib.Path(__file__).resolve().parent.parent / "nextbehind"


def sources():
    return {path.name: path.read_text(encoding="utf-8") for path in sorted(PACKAGE.glob("*.py"))}


class LanguageTest(unittest.TestCase):
    def test_the_folder_contains_nothing_else(self):
        others = [path.name for path in PACKAGE.iterdir() if path.suffix != ".py" and path.name != "__pycache__"]
        self.assertEqual(others, [])

    def test_sizes_and_characters(self):
        for name, text in sources().items():
            lines = text.split("\n")
            with self.subTest(name):
                self.assertLessEqual(len(lines), 400)
                self.assertLessEqual(max(len(line) for line in lines), 120)
                self.assertTrue(all(letter == "\n" or " " <= letter <= "~" for letter in text))

    def test_sizes_of_functions(self):
        for name, text in sources().items():
            for node in ast.walk(ast.parse(text)):
                if isinstance(node, ast.FunctionDef):
                    with self.subTest(f"{name} {node.name}"):
                        self.assertLessEqual(node.end_lineno - node.lineno + 1, 40)

    def test_imports(self):
        for name, text in sources().items():
            for node in ast.walk(ast.parse(text)):
                self.assertNotIsInstance(node, ast.Import)
                if isinstance(node, ast.ImportFrom):
                    self.assertIn(f"{node.module.removeprefix('nextbehind.')}.py", sources(), name)
                    self.assertIsNone(next((alias.asname for alias in node.names if alias.asname), None), name)

    def test_no_two_files_import_from_each_other(self):
        wanted = {}
        for name, text in sources().items():
            nodes = [node for node in ast.walk(ast.parse(text)) if isinstance(node, ast.ImportFrom)]
            wanted[name.removesuffix(".py")] = {node.module.removeprefix("nextbehind.") for node in nodes}
        while wanted:
            free = [name for name in wanted if not wanted[name] & set(wanted)]
            self.assertTrue(free, wanted)
            wanted = {name: wanted[name] for name in wanted if name not in free}


if __name__ == "__main__":
    unittest.main()
