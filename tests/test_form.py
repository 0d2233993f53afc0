"""The interface as the document lists it, and the form of the package."""

import ast
import inspect
import unittest
from pathlib import Path

from rimword import (colours, floors, groups, heights, laying, notes, pieces,
                     turns, words)

ROOT = Path(__file__).resolve().parent.parent
FOLDER = ROOT / "rimword"
FILES = sorted(FOLDER.glob("*.py"))
LIBRARY = {"heapq", "math", "itertools", "collections"}

FUNCTIONS = {
    words: {"corners": ["corner", "word"], "reduced": ["word"],
            "inverse": ["word"]},
    floors: {"rim_from": ["floor", "corner"], "joined": ["one", "other"],
             "seam": ["one", "other"]},
    pieces: {"dominoes": []},
    laying: {"laid": ["floor", "pieces"], "counted": ["floor", "pieces"],
             "is_laid": ["floor", "pieces", "laying"]},
    groups: {"steps": ["word", "pair"], "image": ["word", "pair"],
             "makes_nothing": ["pieces", "pair"],
             "shows": ["floor", "pieces", "pair"],
             "search": ["floor", "pieces", "most"]},
    colours: {"signed": ["floor", "pieces", "wide", "high"]},
    heights: {"highest": ["floor"],
              "shows_ring": ["floor", "corner", "word"]},
    turns: {"heights": ["floor", "laying"],
            "turned": ["floor", "laying", "corner"],
            "turns": ["floor", "one", "other"], "lowest": ["floor"]},
    notes: {"written": ["floor"], "read": ["text"]},
}
CLASSES = {
    floors: {"Floor": {"__init__": ["self", "cells"], "cells": ["self"],
                       "has": ["self", "x", "y"], "first": ["self"],
                       "rim": ["self"]}},
    pieces: {"Pieces": {"__init__": ["self", "pieces"], "told": ["self"],
                        "rims": ["self"]}},
}


def arguments(function):
    return list(inspect.signature(function).parameters)


class Interface(unittest.TestCase):

    def test_functions(self):
        for module, listed in FUNCTIONS.items():
            for name, names in listed.items():
                function = getattr(module, name)
                self.assertEqual(arguments(function), names, name)
                self.assertEqual(function.__module__, module.__name__)

    def test_classes_define_their_methods_themselves(self):
        for module, listed in CLASSES.items():
            for name, methods in listed.items():
                made = getattr(module, name)
                self.assertEqual(made.__module__, module.__name__)
                for method, names in methods.items():
                    self.assertEqual(arguments(vars(made)[method]), names)


class Form(unittest.TestCase):

    def test_the_folder_holds_python_files_alone(self):
        names = [path.name for path in FOLDER.iterdir()
                 if path.name != "__pycache__"]
        self.assertEqual(sorted(names), [path.name for path in FILES])
        self.assertIn("__init__.py", names)

    def test_lines_and_characters(self):
        for path in FILES:
            lines = path.read_bytes().decode("ascii").split("\n")
            self.assertLessEqual(len(lines), 399, path.name)
            for line in lines:
                self.assertLessEqual(len(line), 120, path.name)
                self.assertTrue(line == "" or line.isprintable(), path.name)

    def test_functions_have_at_most_forty_lines(self):
        for path in FILES:
            for node in ast.walk(ast.parse(path.read_text())):
                if isinstance(node, ast.FunctionDef):
                    self.assertLessEqual(node.end_lineno - node.lineno + 1,
                                         40, node.name)

    def test_imports_name_files_of_the_package(self):
        for path in FILES:
            for node in ast.walk(ast.parse(path.read_text())):
                self.assertNotIsInstance(node, ast.Import, path.name)
                if isinstance(node, ast.ImportFrom):
                    self.assertEqual(node.level, 0, path.name)
                    self.assertTrue(node.module.startswith("rimword.")
                                    or node.module in LIBRARY, node.module)

    def test_no_float_and_no_division(self):
        for path in FILES:
            for node in ast.walk(ast.parse(path.read_text())):
                self.assertNotIsInstance(node, ast.Div, path.name)
                if isinstance(node, ast.Constant):
                    self.assertNotIsInstance(node.value, float, path.name)

    def test_no_clock_no_chance_and_no_files(self):
        barred = {"open", "input", "print", "exec", "eval", "hash", "id"}
        for path in FILES:
            names = {node.id for node in ast.walk(ast.parse(path.read_text()))
                     if isinstance(node, ast.Name)}
            self.assertEqual(names & barred, set(), path.name)


if __name__ == "__main__":
    unittest.main()
