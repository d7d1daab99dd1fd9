"""The package's files: what is where, and the rules of size that a look at the text can keep."""

import ast
import builtins
import unittest
from pathlib import Path

FOLDER = Path(__file__).resolve().parent.parent / "eachworkread"

# The builtins that the package has a use for, and kinds of statements and values that it does without.
BUILTINS = {
    "len", "range", "enumerate", "zip", "min", "max", "sum", "sorted", "list", "tuple", "isinstance", "any", "all",
    "int", "bool", "ValueError",
}
NEVER = (
    ast.Try, ast.With, ast.Global, ast.Nonlocal, ast.Delete, ast.Assert, ast.Match, ast.Yield, ast.YieldFrom, ast.Await,
    ast.AsyncFunctionDef, ast.NamedExpr, ast.Set, ast.SetComp, ast.GeneratorExp, ast.Starred, ast.JoinedStr,
    ast.AnnAssign, ast.Div, ast.Mod, ast.Pow,
)

FUNCTIONS = {
    "rows.py": ["is_rows", "is_good", "is_enough", "count", "is_short", "extends"],
    "steps.py": ["step", "is_chain", "is_closed"],
    "extending.py": ["extension"],
    "droppings.py": ["borne", "reason", "is_reason"],
    "further.py": ["further_limits"],
    "goodrows.py": ["good_rows", "least_tight", "pair", "readings", "good_with"],
    "relaid.py": ["relaid", "bound"],
}
CLASSES = {
    "errors.py": {
        "ReadError": [],
        "BadBook": ["__init__"],
        "NoDropping": ["__init__"],
        "NoComing": ["__init__"],
        "Short": ["__init__"],
        "TooFew": ["__init__"],
        "BadDemand": ["__init__"],
        "BadLimit": ["__init__"],
        "NoWork": ["__init__"],
        "NoReader": ["__init__"],
        "TooManyWorks": ["__init__"],
        "NothingDone": ["__init__"],
    },
    "books.py": {"Book": ["__init__", "demands", "readers", "__len__", "__eq__"]},
    "house.py": {
        "House": [
            "__init__", "book_now", "rows_now", "absent_now", "__len__", "drop_out", "come_back", "extend", "lay_anew",
            "set_demand", "set_limit", "add_work", "undo", "borne_now", "why_not", "kept", "fork",
        ],
    },
}


def texts():
    return {path.name: path.read_text(encoding="ascii") for path in sorted(FOLDER.glob("*.py"))}


def defined(body, kind):
    return {part.name: part for part in body if isinstance(part, kind)}


def imported_files(tree):
    return [part.module.split(".")[1] + ".py" for part in tree.body if isinstance(part, ast.ImportFrom)]


class LayoutTest(unittest.TestCase):

    def test_the_folder_holds_only_python_files(self):
        names = [path.name for path in FOLDER.iterdir() if path.name != "__pycache__"]
        self.assertEqual([name for name in names if not name.endswith(".py")], [])
        self.assertIn("__init__.py", names)

    def test_functions_stand_in_their_files(self):
        for name, functions in FUNCTIONS.items():
            found = defined(ast.parse(texts()[name]).body, ast.FunctionDef)
            self.assertEqual([one for one in functions if one not in found], [])

    def test_classes_and_methods_stand_in_their_files(self):
        for name, classes in CLASSES.items():
            found = defined(ast.parse(texts()[name]).body, ast.ClassDef)
            for one, methods in classes.items():
                own = defined(found[one].body, ast.FunctionDef)
                self.assertEqual([method for method in methods if method not in own], [], one)

    def test_sizes(self):
        for name, text in texts().items():
            lines = text.split("\n")
            self.assertLessEqual(len(lines), 400, name)
            self.assertLessEqual(max(len(line) for line in lines), 120, name)
            self.assertEqual([sign for sign in text if sign != "\n" and not " " <= sign <= "~"], [], name)
            for part in ast.walk(ast.parse(text)):
                if isinstance(part, ast.FunctionDef):
                    self.assertLessEqual(part.end_lineno - part.lineno + 1, 40, part.name)

    def test_imports_come_from_the_package_alone(self):
        for name, text in texts().items():
            for part in ast.walk(ast.parse(text)):
                self.assertNotIsInstance(part, ast.Import, name)
                if isinstance(part, ast.ImportFrom):
                    self.assertTrue(part.module.startswith("eachworkread."), name)

    def test_imports_name_the_files_that_define_the_names(self):
        trees = {name: ast.parse(text) for name, text in texts().items()}
        for name, tree in trees.items():
            for part in tree.body:
                if isinstance(part, ast.ImportFrom):
                    home = trees[part.module.split(".")[1] + ".py"]
                    names = list(defined(home.body, (ast.FunctionDef, ast.ClassDef)))
                    names += [one.targets[0].id for one in home.body if isinstance(one, ast.Assign)]
                    self.assertEqual([one.name for one in part.names if one.name not in names], [], name)
                    self.assertEqual([one.asname for one in part.names if one.asname], [], name)

    def test_no_two_files_import_from_each_other(self):
        imports = {name: imported_files(ast.parse(text)) for name, text in texts().items()}
        for name in imports:
            reached = list(imports[name])
            for other in reached:
                reached += [one for one in imports[other] if one not in reached]
            self.assertNotIn(name, reached)

    def test_names_are_bound_once_and_are_no_builtins(self):
        for name, text in texts().items():
            tree = ast.parse(text)
            imported = [one.name for part in tree.body if isinstance(part, ast.ImportFrom) for one in part.names]
            classes = list(defined(tree.body, ast.ClassDef))
            functions = list(defined(tree.body, ast.FunctionDef))
            above = imported + classes + functions
            self.assertEqual(len(above), len(set(above)), name)
            local = {part.arg for part in ast.walk(tree) if isinstance(part, ast.arg)}
            local |= {part.id for part in ast.walk(tree) if isinstance(part, ast.Name) and type(part.ctx) is ast.Store}
            self.assertEqual(local & set(above), set(), name)
            self.assertEqual(local & set(dir(builtins)), set(), name)

    def test_only_some_builtins_and_methods_of_values_are_used(self):
        for name, text in texts().items():
            tree = ast.parse(text)
            bound = {part.arg for part in ast.walk(tree) if isinstance(part, ast.arg)}
            bound |= {part.id for part in ast.walk(tree) if isinstance(part, ast.Name) and type(part.ctx) is ast.Store}
            read = {part.id for part in ast.walk(tree) if isinstance(part, ast.Name)} - bound
            self.assertLessEqual(read & set(dir(builtins)), BUILTINS, name)
            for part in ast.walk(tree):
                self.assertNotIsInstance(part, NEVER, name)

    def test_no_loop_changes_what_it_goes_over(self):
        for name, text in texts().items():
            for part in ast.walk(ast.parse(text)):
                if isinstance(part, ast.For):
                    over = {one.id for one in ast.walk(part.iter) if isinstance(one, ast.Name)}
                    calls = [one for one in ast.walk(part) if isinstance(one, ast.Call)]
                    methods = [one.func for one in calls if isinstance(one.func, ast.Attribute)]
                    changed = {one.value.id for one in methods if isinstance(one.value, ast.Name)
                               and one.attr in ("append", "pop", "insert", "remove", "clear", "extend")}
                    self.assertEqual(over & changed, set(), (name, part.lineno))
