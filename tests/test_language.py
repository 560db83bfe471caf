"""Rules of ../shared/LANGUAGE.md that a test can see, and that the interface stands where it is listed."""

import ast
import doctest
import unittest
from pathlib import Path

ROOT = Path(__file__).resolve().parent.parent
PACKAGE = ROOT / "risingbars"

INTERFACE = {
    "logs": ["is_name"],
    "notation": ["format_log", "format_event", "parse_log", "read_event"],
    "links": ["is_link", "links_of", "links_between", "way_between", "is_way", "worse_than", "has_way", "covers_of",
              "least_links"],
}
LOG = ["__init__", "item_names", "judges", "events", "grades", "drift_of", "answers", "answers_of", "is_answer",
       "grade_at", "item_at", "judge_at", "stretch_of", "stretches", "in_order", "stretch_at", "lost_first",
       "lost_second", "with_event", "with_event_at", "without_event", "beginning", "only", "with_item",
       "with_judge", "without_item", "without_judge", "with_drift", "backwards", "same_as"]
BUILTINS = ["len", "range", "enumerate", "zip", "min", "max", "sum", "abs", "sorted", "reversed", "int", "str",
            "bool", "list", "tuple", "dict", "set", "isinstance", "ord", "repr", "any", "all", "divmod"]
ALLOWED = (ast.FunctionDef, ast.ClassDef, ast.ImportFrom, ast.Assign, ast.Expr)
UNUSED = (ast.AsyncFunctionDef, ast.Global, ast.Lambda, ast.GeneratorExp, ast.Div, ast.Set, ast.SetComp, ast.Yield,
          ast.Await, ast.Starred, ast.Import)


def trees():
    return {path.stem: ast.parse(path.read_text("ascii")) for path in sorted(PACKAGE.glob("*.py"))}


class Language(unittest.TestCase):
    def test_the_folder_holds_nothing_else(self):
        held = [path.name for path in PACKAGE.iterdir() if path.name != "__pycache__"]
        self.assertEqual([name for name in held if not name.endswith(".py")], [])
        self.assertIn("__init__.py", held)

    def test_sizes_and_characters(self):
        for path in PACKAGE.glob("*.py"):
            text = path.read_text("ascii")
            with self.subTest(path=path.name):
                self.assertLessEqual(len(text.split("\n")), 399)
                self.assertLessEqual(max(len(line) for line in text.split("\n")), 120)
                self.assertEqual([sign for sign in text if not (" " <= sign <= "~" or sign == "\n")], [])
            for node in ast.walk(ast.parse(text)):
                if isinstance(node, ast.FunctionDef):
                    self.assertLessEqual(node.end_lineno - node.lineno + 1, 40, node.name)

    def test_module_level(self):
        for name, tree in trees().items():
            for node in tree.body:
                self.assertIsInstance(node, ALLOWED, name)
                if isinstance(node, ast.Expr):
                    self.assertIsInstance(node.value, ast.Constant, name)

    def test_imports_come_from_the_very_file(self):
        told = trees()
        for name, tree in told.items():
            for node in ast.walk(tree):
                if isinstance(node, ast.ImportFrom):
                    package, stem = node.module.split(".")
                    self.assertEqual((package, node.level), ("risingbars", 0), name)
                    bound = bound_names(told[stem])
                    self.assertEqual([alias.name for alias in node.names if alias.name not in bound], [], name)

    def test_unused_parts_of_python(self):
        for name, tree in trees().items():
            found = [node.lineno for node in ast.walk(tree) if isinstance(node, UNUSED)]
            self.assertEqual(found, [], name)

    def test_calls(self):
        for name, tree in trees().items():
            bound = bound_names(tree)
            for node in ast.walk(tree):
                if isinstance(node, ast.Call) and isinstance(node.func, ast.Name):
                    self.assertIn(node.func.id, BUILTINS + bound, name)
                if isinstance(node, (ast.FunctionDef, ast.ClassDef)):
                    decorators = [told.id for told in node.decorator_list]
                    self.assertIn(decorators, ([], ["property"]), name)

    def test_interface_stands_where_it_is_listed(self):
        told = trees()
        for stem, names in INTERFACE.items():
            defined = [node.name for node in told[stem].body if isinstance(node, ast.FunctionDef)]
            self.assertEqual([name for name in names if name not in defined], [])
        log = [node for node in told["logs"].body if isinstance(node, ast.ClassDef)]
        self.assertEqual([node.name for node in log], ["Log"])
        defined = [node.name for node in log[0].body if isinstance(node, ast.FunctionDef)]
        self.assertEqual([name for name in LOG if name not in defined], [])
        self.assertEqual(len(defined), len(set(defined)))


def bound_names(tree):
    names = []
    for node in tree.body:
        if isinstance(node, (ast.FunctionDef, ast.ClassDef)):
            names.append(node.name)
        elif isinstance(node, ast.ImportFrom):
            names.extend(alias.name for alias in node.names)
        elif isinstance(node, ast.Assign):
            names.extend(target.id for target in node.targets)
    return names


class Readme(unittest.TestCase):
    def test_examples(self):
        told = doctest.testfile(str(ROOT / "README.md"), module_relative=False)
        self.assertEqual(told.failed, 0)
        self.assertGreater(told.attempted, 5)


if __name__ == "__main__":
    unittest.main()
