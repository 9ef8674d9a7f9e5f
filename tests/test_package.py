"""The package as a whole: its interface, its files, and what README.md shows."""

import ast
import doctest
import importlib
import inspect
import pathlib
import unittest

ROOT = pathlib.Path(__file__).resolve().parent.parent
FILES = sorted((ROOT / "guardkeeps").glob("*.py"))

# The interface: the file, the name, the arguments.
INTERFACE = [
    ("errors", "BadWish", ["part"]),
    ("errors", "BadKind", ["part"]),
    ("errors", "BadGuard", ["part"]),
    ("errors", "BadPaper", ["part"]),
    ("errors", "BadText", ["line"]),
    ("errors", "OutOfPlace", ["text"]),
    ("errors", "Nothing", ["text"]),
    ("errors", "TooMany", ["most"]),
    ("wishes", "need_wish", ["thing"]),
    ("wishes", "state_of", ["wish", "run"]),
    ("wishes", "is_good", ["wish", "run"]),
    ("wishes", "is_live", ["wish", "run"]),
    ("wishes", "live_states", ["wish"]),
    ("kinds", "need_kind", ["wish", "thing"]),
    ("games", "is_position", ["wish", "kind", "value"]),
    ("games", "answers", ["wish", "kind", "position", "deed"]),
    ("games", "led", ["wish", "kind", "position", "deed", "shown"]),
    ("games", "can_be_kept", ["wish", "kind"]),
    ("games", "kept_paper", ["wish", "kind"]),
    ("games", "check_kept", ["wish", "kind", "paper"]),
    ("needs", "least_hold", ["wish", "ahead", "loose"]),
    ("needs", "least_ahead", ["wish", "hold", "loose"]),
    ("needs", "need", ["wish"]),
    ("parts", "is_part", ["wish", "other"]),
    ("parts", "are_alike", ["wish", "other"]),
    ("parts", "parting", ["wish", "other"]),
    ("parts", "kept_part", ["wish", "loose"]),
    ("guards", "need_guard", ["deeds", "thing"]),
    ("guards", "output", ["deeds", "guard", "run"]),
    ("guards", "memory_of", ["deeds", "guard", "run"]),
    ("judges", "failing", ["wish", "kind", "guard", "run"]),
    ("judges", "keeps", ["wish", "kind", "guard"]),
    ("judges", "first_failing", ["wish", "kind", "guard"]),
    ("judges", "judge_paper", ["wish", "kind", "guard"]),
    ("judges", "check_judge", ["wish", "kind", "guard", "paper"]),
    ("judges", "held_and_early", ["wish", "kind", "guard"]),
    ("fellows", "are_fellows", ["deeds", "guard", "other"]),
    ("fellows", "parting_run", ["deeds", "guard", "other"]),
    ("fellows", "least", ["deeds", "guard"]),
    ("fellows", "joined", ["deeds", "guard", "other"]),
    ("fellows", "guard_of", ["wish", "kind", "paper"]),
    ("films", "do_fit", ["wish", "kind", "films"]),
    ("films", "first_unfit", ["wish", "kind", "films"]),
    ("watches", "Watch", ["wish", "kind", "guard"]),
    ("watches", "under", ["watch", "deed"]),
    ("texts", "wish_text", ["wish"]),
    ("texts", "guard_text", ["deeds", "guard"]),
    ("texts", "read_wish", ["string"]),
    ("texts", "read_guard", ["deeds", "string"]),
    ("desk", "Desk", []),
]

# The methods of its classes: the file, the class, the name, the arguments behind self.
METHODS = [
    ("watches", "Watch", "feed", "(self, deed)"),
    ("watches", "Watch", "back", "(self, *, many=1)"),
    ("watches", "Watch", "copy", "(self)"),
    ("watches", "Watch", "trial", "(self)"),
    ("desk", "Desk", "say", "(self, line)"),
]

# What its classes have besides: properties, and what stands behind signs.
PROPERTIES = [
    ("watches", "Watch", ["wish", "kind", "guard", "run", "output", "memory", "word"]),
    ("desk", "Desk", ["wish", "kind", "watch"]),
]
SIGNS = ["__len__", "__contains__", "__eq__"]


class Interface(unittest.TestCase):
    def test_names_and_arguments(self):
        for file, name, arguments in INTERFACE:
            found = getattr(importlib.import_module(f"guardkeeps.{file}"), name)
            self.assertEqual(found.__module__, f"guardkeeps.{file}")
            parameters = inspect.signature(found).parameters.values()
            self.assertEqual([each.name for each in parameters], arguments, name)
            for each in parameters:
                self.assertIs(each.kind, inspect.Parameter.POSITIONAL_OR_KEYWORD, name)
                self.assertIs(each.default, inspect.Parameter.empty, name)

    def test_methods_stand_in_the_class_itself(self):
        for file, owner, name, arguments in METHODS:
            found = vars(getattr(importlib.import_module(f"guardkeeps.{file}"), owner))[name]
            self.assertEqual(str(inspect.signature(found)), arguments, name)
        watch = importlib.import_module("guardkeeps.watches").Watch
        for name in SIGNS:
            self.assertTrue(inspect.isfunction(vars(watch)[name]), name)

    def test_properties_stand_in_the_class_itself(self):
        for file, owner, names in PROPERTIES:
            found = vars(getattr(importlib.import_module(f"guardkeeps.{file}"), owner))
            for name in names:
                self.assertIsInstance(found[name], property, name)
                self.assertIsNone(found[name].fset, name)

    def test_each_is_defined_in_its_file(self):
        for file, name, _ in INTERFACE:
            names = [node.name for node in ast.parse(
                (ROOT / "guardkeeps" / f"{file}.py").read_text()).body
                if isinstance(node, (ast.FunctionDef, ast.ClassDef))]
            self.assertIn(name, names, file)


class Files(unittest.TestCase):
    """The rules of the language that a few rows can tell."""

    def test_only_plain_files(self):
        for path in (ROOT / "guardkeeps").iterdir():
            if path.name != "__pycache__":
                self.assertRegex(path.name, r"^([a-z][a-z0-9_]*|__init__)\.py$")

    def test_sizes_and_characters(self):
        for path in FILES:
            text = path.read_bytes().decode("ascii")
            rows = text.split("\n")
            self.assertLessEqual(len(rows), 399, path)
            self.assertLessEqual(max(map(len, rows)), 120, path)
            self.assertTrue(all(" " <= sign <= "~" or sign == "\n" for sign in text), path)

    def test_functions_are_short(self):
        for path in FILES:
            for node in ast.walk(ast.parse(path.read_text())):
                if isinstance(node, ast.FunctionDef):
                    self.assertLessEqual(node.end_lineno - node.lineno + 1, 40, (path, node.name))

    def test_imports_come_from_the_file_that_defines(self):
        for path in FILES:
            for node in ast.walk(ast.parse(path.read_text())):
                self.assertNotIsInstance(node, ast.Import, path)
                if isinstance(node, ast.ImportFrom):
                    self.assertTrue(node.module.startswith("guardkeeps."), path)
                    home = (ROOT / node.module.replace(".", "/")).with_suffix(".py")
                    for name in node.names:
                        self.assertIsNone(name.asname)
                        self.assertIn(name.name, self.defined_in(home), path)

    def test_no_two_files_import_from_each_other(self):
        imported = {path.stem: {node.module.split(".")[1]
                                for node in ast.walk(ast.parse(path.read_text()))
                                if isinstance(node, ast.ImportFrom)} for path in FILES}
        while imported:
            free = [file for file, others in imported.items() if not others & set(imported)]
            self.assertTrue(free, imported)
            for file in free:
                del imported[file]

    def defined_in(self, path):
        names = []
        for node in ast.parse(path.read_text()).body:
            if isinstance(node, (ast.FunctionDef, ast.ClassDef)):
                names.append(node.name)
            if isinstance(node, ast.Assign):
                names.extend(target.id for target in node.targets)
        return names


class Readme(unittest.TestCase):
    def test_what_it_shows_comes_out(self):
        failed, tried = doctest.testfile(str(ROOT / "README.md"), module_relative=False)
        self.assertEqual(failed, 0)
        self.assertGreater(tried, 0)


if __name__ == "__main__":
    unittest.main()
