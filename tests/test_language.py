"""Rules of ../shared/LANGUAGE.md that a test can see, and that the interface stands where it is listed."""

import ast
import builtins
import doctest
import unittest
from pathlib import Path

ROOT = Path(__file__).resolve().parent.parent
PACKAGE = ROOT / "risingbars"

INTERFACE = {
    "logs": ["is_name"],
    "notation": ["format_log", "format_event", "parse_log", "read_event"],
    "links": ["is_link", "links_of", "links_between", "way_between", "is_way", "worse_than", "has_way", "covers_of",
              "least_links"],
    "explain": ["ring_of", "explains", "depths_of", "low_of", "high_of", "explanation", "check_explanation"],
    "same": ["says_all", "say_same", "parting_qualities", "outer_answers", "needless_answers", "thinned"],
    "pairs": ["order_of", "explains_order", "sure_pairs", "open_pairs", "may_be", "order_saying", "places_of",
              "order_at", "best_items", "worst_items", "order_count", "single_count"],
    "grades": ["grade_range", "check_range", "possible_grades", "order_with", "forecast", "answer_range"],
    "sorting": ["class_count", "longest_way", "sort_items", "sorting_at", "is_sorting", "sorting_count", "widest",
                "check_widest"],
    "late": ["choices_of", "log_with", "possible_choices", "places_left", "sure_with", "late_paper", "check_late"],
    "moves": ["move_places", "are_enough", "crossings", "crossings_apart", "fewest_moves", "rings_for_moves",
              "least_moves"],
    "strikes": ["fewest_strikes", "rings_apart", "does_free", "least_strikes"],
    "drifts": ["possible_drifts", "may_stay", "staying_lots", "reset_places", "does_part", "rings_for_resets",
               "least_resets"],
    "asks": ["outcomes", "sure_gain", "best_gain", "quiet_grades", "best_asks", "is_open", "even_qualities",
             "open_answers", "could_prove"],
    "panels": ["joined", "explain_all", "ring_in", "quarrels", "peaces", "together"],
    "report": ["pair_table", "forecast_table", "ring_line"],
}
CLASSES = {
    ("logs", "Log"): [
        "__init__", "item_names", "judges", "events", "grades", "drift_of", "answers", "answers_of", "is_answer",
        "grade_at", "item_at", "judge_at", "stretch_of", "stretches", "in_order", "stretch_at", "lost_first",
        "lost_second", "with_event", "with_event_at", "without_event", "beginning", "only", "with_item",
        "with_judge", "without_item", "without_judge", "with_drift", "backwards", "same_as"],
    ("explain", "Explanation"): ["__init__"],
    ("grades", "GradeRange"): ["__init__"],
    ("cases", "Case"): [
        "__init__", "answers", "stretch_of", "in_order", "stand_together", "links", "ring", "way_between",
        "explanation", "explains"],
    ("worlds", "World"): ["__init__", "quality_of", "bars_of", "move", "set_anew", "would_say", "answer", "log", "bars_at"],
    ("desk", "Desk"): [
        "__init__", "put_event", "put_event_at", "drop_event", "put_item", "put_judge", "set_drift", "log_now", "answer",
        "undo", "redo", "trial", "change_all", "found"],
    ("desk", "Trial"): ["__init__", "__enter__", "__exit__"],
    ("session", "Session"): ["__init__", "obey", "play"],
}
PROPERTIES = {"item_names", "judges", "events", "grades", "found"}
LIBRARY = {"math": ["comb"], "itertools": ["combinations"]}
BUILTINS = ["len", "range", "enumerate", "zip", "min", "max", "sum", "abs", "sorted", "reversed", "int", "str",
            "bool", "list", "tuple", "dict", "set", "isinstance", "ord", "repr", "any", "all", "divmod"]
ALLOWED = (ast.FunctionDef, ast.ClassDef, ast.ImportFrom, ast.Assign, ast.Expr)
UNUSED = (ast.AsyncFunctionDef, ast.Global, ast.GeneratorExp, ast.Div, ast.Set, ast.SetComp, ast.Yield, ast.Await,
          ast.Starred, ast.Import, ast.NamedExpr, ast.Nonlocal, ast.Invert, ast.Delete)
# Parameters that are functions.
FUNCTIONS = ["is_enough", "case_with", "places_of"]


def trees():
    return {path.stem: ast.parse(path.read_text("ascii")) for path in sorted(PACKAGE.glob("*.py"))}


class Language(unittest.TestCase):
    def test_the_folder_holds_nothing_else(self):
        held = [path.name for path in PACKAGE.iterdir() if path.name != "__pycache__"]
        self.assertEqual([name for name in held if not name.endswith(".py")], [])
        self.assertIn("__init__.py", held)

    def test_sizes_and_characters(self):
        for path in PACKAGE.glob("*.py"):
            text = path.read_text("ascii")
            with self.subTest(path=path.name):
                self.assertLessEqual(len(text.split("\n")), 399)
                self.assertLessEqual(max(len(line) for line in text.split("\n")), 120)
                self.assertEqual([sign for sign in text if not (" " <= sign <= "~" or sign == "\n")], [])
            for node in ast.walk(ast.parse(text)):
                if isinstance(node, ast.FunctionDef):
                    self.assertLessEqual(node.end_lineno - node.lineno + 1, 40, node.name)

    def test_module_level(self):
        for name, tree in trees().items():
            for node in tree.body:
                self.assertIsInstance(node, ALLOWED, name)
                if isinstance(node, ast.Expr):
                    self.assertIsInstance(node.value, ast.Constant, name)

    def test_imports_come_from_the_very_file(self):
        told = trees()
        for name, tree in told.items():
            for node in ast.walk(tree):
                if isinstance(node, ast.ImportFrom) and node.module in LIBRARY:
                    self.assertEqual([alias.name for alias in node.names], LIBRARY[node.module], name)
                elif isinstance(node, ast.ImportFrom):
                    package, stem = node.module.split(".")
                    self.assertEqual((package, node.level), ("risingbars", 0), name)
                    bound = bound_names(told[stem])
                    self.assertEqual([alias.name for alias in node.names if alias.name not in bound], [], name)

    def test_unused_parts_of_python(self):
        for name, tree in trees().items():
            found = [node.lineno for node in ast.walk(tree) if isinstance(node, UNUSED)]
            self.assertEqual(found, [], name)

    def test_calls(self):
        for name, tree in trees().items():
            bound = bound_names(tree) + FUNCTIONS
            for node in ast.walk(tree):
                if isinstance(node, ast.Call) and isinstance(node.func, ast.Name):
                    self.assertIn(node.func.id, BUILTINS + bound, name)
                if isinstance(node, (ast.FunctionDef, ast.ClassDef)):
                    decorators = [told.id for told in node.decorator_list]
                    self.assertIn(decorators, ([], ["property"]), name)
                    self.assertEqual(decorators != [], node.name in PROPERTIES, name)

    def test_handlers(self):
        for name, tree in trees().items():
            for node in ast.walk(tree):
                if isinstance(node, ast.FunctionDef):
                    handlers = [part for part in ast.walk(node) if isinstance(part, ast.ExceptHandler)]
                    used = [part.id for part in ast.walk(node) if isinstance(part, ast.Name)
                            and isinstance(part.ctx, ast.Store)] + [part.arg for part in node.args.args]
                    caught = [part.name for part in handlers if part.name]
                    self.assertEqual(len(caught), len(set(caught)), name)
                    self.assertEqual([word for word in caught if word in used], [], name)
                    for part in handlers:
                        self.assertIn(part.type.id, bound_names(tree), name)

    def test_properties_are_assigned_nowhere(self):
        for name, tree in trees().items():
            assigned = [node.attr for node in ast.walk(tree) if isinstance(node, ast.Attribute)
                        and not isinstance(node.ctx, ast.Load)]
            self.assertEqual([word for word in assigned if word in PROPERTIES], [], name)

    def test_no_name_is_a_method_and_an_attribute(self):
        for name, tree in trees().items():
            for told in [node for node in tree.body if isinstance(node, ast.ClassDef)]:
                methods = [node.name for node in told.body if isinstance(node, ast.FunctionDef)]
                assigned = [node.attr for node in ast.walk(told) if isinstance(node, ast.Attribute)
                            and not isinstance(node.ctx, ast.Load)]
                self.assertEqual([word for word in assigned if word in methods], [], name)

    def test_interface_stands_where_it_is_listed(self):
        told = trees()
        for stem, names in INTERFACE.items():
            defined = [node.name for node in told[stem].body if isinstance(node, ast.FunctionDef)]
            self.assertEqual([name for name in names if name not in defined], [])
        for (stem, name), methods in CLASSES.items():
            found = [node for node in told[stem].body if isinstance(node, ast.ClassDef) and node.name == name]
            self.assertEqual(len(found), 1)
            defined = [node.name for node in found[0].body if isinstance(node, ast.FunctionDef)]
            self.assertEqual([method for method in methods if method not in defined], [])
            self.assertEqual(len(defined), len(set(defined)))

    def test_parameters_and_variables_have_names_of_their_own(self):
        for name, tree in trees().items():
            taken = dir(builtins) + bound_names(tree, (ast.ClassDef, ast.ImportFrom))
            used = [node.arg for node in ast.walk(tree) if isinstance(node, ast.arg)]
            used += [node.id for node in ast.walk(tree) if isinstance(node, ast.Name) and isinstance(node.ctx, ast.Store)]
            self.assertEqual([word for word in used if word in taken], [], name)
            defined = [node.name for node in ast.walk(tree) if isinstance(node, (ast.FunctionDef, ast.ClassDef))
                       and node in tree.body]
            self.assertEqual([word for word in defined if word in dir(builtins)], [], name)

    def test_no_files_import_from_each_other(self):
        told = {name: [node.module.split(".")[-1] for node in tree.body if isinstance(node, ast.ImportFrom)]
                for name, tree in trees().items()}
        ahead = []
        while len(ahead) < len(told):
            free = [name for name in told if name not in ahead
                    and all(other in ahead or other not in told for other in told[name])]
            self.assertTrue(free, "some files import from each other")
            ahead += free


def bound_names(tree, kinds=(ast.FunctionDef, ast.ClassDef, ast.ImportFrom, ast.Assign)):
    names = []
    for node in tree.body:
        if not isinstance(node, kinds):
            continue
        if isinstance(node, (ast.FunctionDef, ast.ClassDef)):
            names.append(node.name)
        elif isinstance(node, ast.ImportFrom):
            names.extend(alias.name for alias in node.names)
        elif isinstance(node, ast.Assign):
            names.extend(target.id for target in node.targets)
    return names


class Readme(unittest.TestCase):
    def test_examples(self):
        told = doctest.testfile(str(ROOT / "README.md"), module_relative=False)
        self.assertEqual(told.failed, 0)
        self.assertGreater(told.attempted, 5)

    def test_it_tells_of_all_files(self):
        text = (ROOT / "README.md").read_text("ascii")
        for stem in trees():
            if stem != "__init__":
                self.assertIn(f"`risingbars/{stem}.py`", text)


if __name__ == "__main__":
    unittest.main()
