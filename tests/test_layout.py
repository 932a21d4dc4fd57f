"""Where the interface stands, and the plain limits on the package's files."""

import ast
import importlib
import pathlib
import unittest

PACKAGE = pathlib.Path(__file__).resolve().parent.parent / "cutjoin"

LIBRARY = ("heapq", "math", "itertools", "collections", "__future__")

INTERFACE = {
    "errors": ("JoinError", "BadYard", "BadPlaces", "BadDeed", "BadText", "Unlike"),
    "pieces": ("is_name", "is_piece", "is_end", "begins", "ends", "other_end", "place_of"),
    "yards": ("yard_of", "names_of", "turned", "need_yard"),
    "places": ("places_of", "yard_by", "place_at"),
    "telling": ("written", "read"),
    "deeds": ("done", "back", "all_deeds"),
    "walks": ("parts", "apart"),
    "fewest": ("deeds_to", "nearer", "is_between"),
}

ARGUMENTS = {
    "is_name": ["thing"], "is_piece": ["thing"], "is_end": ["thing"], "begins": ["piece"], "ends": ["piece"],
    "other_end": ["end"], "place_of": ["one", "other"], "yard_of": ["rows", "rings"], "names_of": ["yard"],
    "turned": ["yard", "names"], "need_yard": ["thing"], "places_of": ["yard"], "yard_by": ["places"],
    "place_at": ["yard", "end"], "written": ["yard"], "read": ["text"], "done": ["yard", "deed"],
    "back": ["yard", "deed"], "all_deeds": ["yard"], "parts": ["one", "other"], "apart": ["one", "other"],
    "deeds_to": ["one", "other"], "nearer": ["one", "other"], "is_between": ["one", "mid", "other"],
}


def sources():
    """The text of each file of the package, with its path."""
    return [(path, path.read_text(encoding="utf-8")) for path in sorted(PACKAGE.rglob("*.py"))]


class Interface(unittest.TestCase):
    def test_each_name_is_defined_in_its_own_file(self):
        for file, wanted in INTERFACE.items():
            module = importlib.import_module("cutjoin." + file)
            for name in wanted:
                with self.subTest(file=file, name=name):
                    self.assertEqual(getattr(module, name).__module__, module.__name__)

    def test_arguments_have_the_names_of_the_interface(self):
        for file, wanted in INTERFACE.items():
            module = importlib.import_module("cutjoin." + file)
            for name in wanted:
                if name in ARGUMENTS:
                    code = getattr(module, name).__code__
                    self.assertEqual(list(code.co_varnames[:code.co_argcount]), ARGUMENTS[name])


class Files(unittest.TestCase):
    def test_sizes_and_characters(self):
        for path, text in sources():
            with self.subTest(path=path.name):
                self.assertLessEqual(len(text.splitlines()), 399)
                self.assertLessEqual(max(len(line) for line in text.splitlines()), 120)
                self.assertEqual([sign for sign in text if not (" " <= sign <= "~" or sign == "\n")], [])

    def test_functions_are_short(self):
        for path, text in sources():
            for node in ast.walk(ast.parse(text)):
                if isinstance(node, ast.FunctionDef):
                    with self.subTest(path=path.name, name=node.name):
                        self.assertLessEqual(node.end_lineno - node.lineno + 1, 40)

    def test_imports_come_from_the_package_and_the_allowed_library(self):
        for path, text in sources():
            for node in ast.walk(ast.parse(text)):
                self.assertNotIsInstance(node, ast.Import)
                if isinstance(node, ast.ImportFrom):
                    self.assertEqual(node.level, 0)
                    self.assertTrue(node.module.startswith("cutjoin.") or node.module in LIBRARY, node.module)


if __name__ == "__main__":
    unittest.main()
