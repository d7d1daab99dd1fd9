"""The package's files: what is where, and the rules of size that a look at the text can keep."""

import ast
import unittest
from pathlib import Path

FOLDER = Path(__file__).resolve().parent.parent / "eachworkread"

FUNCTIONS = {
    "rows.py": ["is_rows", "is_good", "is_enough", "count", "is_short", "extends"],
    "steps.py": ["step", "is_chain", "is_closed"],
    "extending.py": ["extension"],
    "droppings.py": ["borne", "reason", "is_reason"],
}
CLASSES = {
    "errors.py": {
        "ReadError": [],
        "BadBook": ["__init__"],
        "NoDropping": ["__init__"],
        "NoComing": ["__init__"],
        "Short": ["__init__"],
        "TooFew": ["__init__"],
        "BadDemand": ["__init__"],
        "BadLimit": ["__init__"],
        "NoWork": ["__init__"],
        "NoReader": ["__init__"],
        "TooManyWorks": ["__init__"],
        "NothingDone": ["__init__"],
    },
    "books.py": {"Book": ["__init__", "demands", "readers", "__len__", "__eq__"]},
}


def texts():
    return {path.name: path.read_text(encoding="ascii") for path in sorted(FOLDER.glob("*.py"))}


def defined(body, kind):
    return {part.name: part for part in body if isinstance(part, kind)}


class LayoutTest(unittest.TestCase):

    def test_the_folder_holds_only_python_files(self):
        names = [path.name for path in FOLDER.iterdir() if path.name != "__pycache__"]
        self.assertEqual([name for name in names if not name.endswith(".py")], [])
        self.assertIn("__init__.py", names)

    def test_functions_stand_in_their_files(self):
        for name, functions in FUNCTIONS.items():
            found = defined(ast.parse(texts()[name]).body, ast.FunctionDef)
            self.assertEqual([one for one in functions if one not in found], [])

    def test_classes_and_methods_stand_in_their_files(self):
        for name, classes in CLASSES.items():
            found = defined(ast.parse(texts()[name]).body, ast.ClassDef)
            for one, methods in classes.items():
                own = defined(found[one].body, ast.FunctionDef)
                self.assertEqual([method for method in methods if method not in own], [], one)

    def test_sizes(self):
        for name, text in texts().items():
            lines = text.split("\n")
            self.assertLessEqual(len(lines), 400, name)
            self.assertLessEqual(max(len(line) for line in lines), 120, name)
            self.assertEqual([sign for sign in text if sign != "\n" and not " " <= sign <= "~"], [], name)
            for part in ast.walk(ast.parse(text)):
                if isinstance(part, ast.FunctionDef):
                    self.assertLessEqual(part.end_lineno - part.lineno + 1, 40, part.name)

    def test_imports_come_from_the_package_alone(self):
        for name, text in texts().items():
            for part in ast.walk(ast.parse(text)):
                self.assertNotIsInstance(part, ast.Import, name)
                if isinstance(part, ast.ImportFrom):
                    self.assertTrue(part.module.startswith("eachworkread."), name)
