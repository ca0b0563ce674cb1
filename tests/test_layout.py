"""The interface as it is written in the document, and the form of the package's files."""

import ast
import importlib
import inspect
import unittest
from pathlib import Path

PACKAGE = Path(__file__).resolve().parent.parent / "markfilters"

# For each file its functions and its classes, with what they are called with.
INTERFACE = {
    "errors": {
        "InvalidNumber": ["value"], "InvalidMarks": ["value"], "InvalidMark": ["value"],
        "InvalidKeys": ["value"], "InvalidItem": ["value"], "InvalidBits": ["value"],
        "InvalidTelling": ["value"], "InvalidRows": ["value"], "InvalidTable": ["value"],
        "InvalidQuestion": ["value"], "InvalidClaim": ["value"], "Undefined": ["what"],
        "NothingToUndo": ["word"],
    },
    "markings": {"Marking": ["cells", "marks"]},
    "filling": {
        "filled": ["marking", "keys"], "says": ["marking", "bits"], "wrong": ["marking", "keys"],
        "wrong_total": ["marking", "size"],
    },
    "joining": {
        "met": ["marking", "one", "other"], "meets": ["marking", "one", "other"],
        "met_wrong": ["marking", "one", "other"], "folded": ["marking"],
    },
    "leaving": {
        "own_cells": ["marking", "keys", "item"], "lost": ["marking", "keys", "bits"],
        "counts": ["marking", "keys"], "misled": ["marking", "keys", "item"],
    },
    "shares": {"failing": ["cells", "each", "many"], "best_each": ["cells", "many"]},
    "tellings": {
        "yeses": ["marking"], "avoiding": ["marking", "cell"], "is_telling": ["many", "value"],
        "needed": ["many", "telling"], "marking_for": ["many", "telling"],
    },
    "free": {
        "is_free": ["marking", "size"], "worst": ["marking", "size"], "most_free": ["cells"],
        "free_marks": ["cells", "many"], "free_share": ["cells", "marks"],
    },
    "prints": {
        "Table": ["rooms", "bits", "rows"], "print_table": ["rooms", "bits", "prints"],
        "tells": ["table", "number"], "grown": ["table"], "shrunk": ["table"], "cut": ["table"],
        "joined": ["one", "other"], "put": ["table", "number"], "taken": ["table", "number"],
    },
    "widths": {
        "is_family": ["many", "size", "width", "value"], "fewest": ["many", "size", "width"],
        "family": ["many", "size", "width"], "walls": ["many", "size", "width", "k"],
        "walls_hold": ["many", "size", "width", "k", "value"],
    },
    "claims": {
        "is_question": ["marking", "value"], "is_claim": ["marking", "value"],
        "answer_of": ["marking", "question"], "question_of": ["marking", "claim"],
    },
    "papers": {"paper_of": ["marking", "question"], "claim_holds": ["marking", "claim", "paper"]},
    "desk": {"Desk": ["marking"], "same_state": ["one", "other"]},
}

# The methods of each class, with their parameters behind the object itself.
METHODS = {
    ("markings", "Marking"): {"__init__": ["cells", "marks"], "__eq__": ["other"], "__len__": []},
    ("prints", "Table"): {"__init__": ["rooms", "bits", "rows"], "__eq__": ["other"]},
    ("desk", "Desk"): {
        "__init__": ["marking"], "add": ["mark"], "drop": ["item"], "turn": ["item", "mark"], "widen": ["cells"],
        "fold": [], "watch": ["question"], "leave": ["question"], "undo": [], "redo": [], "claim": ["question"],
        "paper": ["question"], "report": [],
    },
}

LIBRARY = {"itertools", "math", "heapq", "collections"}


def files():
    return sorted(PACKAGE.rglob("*.py"))


def tree_of(name):
    return ast.parse((PACKAGE / f"{name}.py").read_text(encoding="ascii"))


class InterfaceTest(unittest.TestCase):
    def test_names_and_parameters(self):
        for module, things in INTERFACE.items():
            for name, parameters in things.items():
                thing = getattr(importlib.import_module(f"markfilters.{module}"), name)
                self.assertEqual(list(inspect.signature(thing).parameters), parameters, name)

    def test_each_is_defined_in_its_own_file(self):
        for module, things in INTERFACE.items():
            body = tree_of(module).body
            defined = [row.name for row in body if isinstance(row, (ast.FunctionDef, ast.ClassDef))]
            for name in things:
                self.assertEqual(defined.count(name), 1, name)

    def test_methods_stand_in_the_class_itself(self):
        for (module, name), methods in METHODS.items():
            thing = getattr(importlib.import_module(f"markfilters.{module}"), name)
            for method, parameters in methods.items():
                self.assertIn(method, vars(thing))
                told = list(inspect.signature(vars(thing)[method]).parameters)
                self.assertEqual(told[1:], parameters, method)


class FormTest(unittest.TestCase):
    def test_the_folder_holds_python_files_only(self):
        for path in PACKAGE.rglob("*"):
            if "__pycache__" not in path.parts:
                self.assertTrue(path.is_dir() or path.suffix == ".py", path)
        self.assertTrue((PACKAGE / "__init__.py").exists())

    def test_lines(self):
        for path in files():
            text = path.read_bytes().decode("ascii")
            self.assertTrue(all(char == "\n" or " " <= char <= "~" for char in text), path)
            lines = text.split("\n")
            self.assertLessEqual(len(lines), 399, path)
            self.assertLessEqual(max(map(len, lines)), 120, path)

    def test_functions_are_small(self):
        for path in files():
            for node in ast.walk(ast.parse(path.read_text())):
                if isinstance(node, ast.FunctionDef):
                    self.assertLessEqual(node.end_lineno - node.lineno + 1, 40, node.name)

    def test_imports(self):
        for path in files():
            for node in ast.walk(ast.parse(path.read_text())):
                self.assertNotIsInstance(node, ast.Import, path)
                if isinstance(node, ast.ImportFrom):
                    self.assertEqual(node.level, 0, path)
                    own = node.module.startswith("markfilters.")
                    self.assertTrue(own or node.module in LIBRARY, (path, node.module))


if __name__ == "__main__":
    unittest.main()
