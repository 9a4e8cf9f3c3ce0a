"""The form of the package: its interface, and those rules of the language that a test can see."""

import ast
import builtins
import inspect
import pathlib
import unittest

import layerprint.bodies
import layerprint.hanging
import layerprint.notes
import layerprint.props
import layerprint.strokes
import layerprint.tables
import layerprint.turning
import layerprint.upright

PACKAGE = pathlib.Path(layerprint.__file__).parent
LIBRARY = {"heapq", "math", "itertools", "collections", "__future__"}
INTERFACE = {
    layerprint.bodies: {"is_body": ["body"], "cells": ["body"], "slice_at": ["body", "z"]},
    layerprint.turning: {"laid": ["body"], "turnings": ["body"], "alike": ["one", "other"]},
    layerprint.hanging: {"hanging": ["body", "props", "reach"], "filled": ["body", "props"]},
    layerprint.props: {"fewest": ["body", "reach"], "shows": ["body", "reach", "z", "many", "paper"]},
    layerprint.strokes: {
        "strokes": ["body", "z"], "best_order": ["body", "z", "place"], "printed": ["body", "place"],
    },
    layerprint.tables: {"table": ["body", "z", "place"], "holds": ["body", "z", "place", "much", "told"]},
    layerprint.upright: {"best": ["body", "reach"]},
    layerprint.notes: {"written": ["body"], "read": ["text"]},
}
BUILTINS = (
    "len range enumerate zip min max sum abs sorted reversed int str bool list tuple dict set isinstance ord repr "
    "any all divmod iter next super"
).split()


def files():
    return sorted(PACKAGE.glob("**/*.py"))


def trees():
    return [(path, ast.parse(path.read_text("ascii"))) for path in files()]


class Interface(unittest.TestCase):
    def test_functions_stand_in_their_files_with_their_arguments(self):
        for module, functions in INTERFACE.items():
            for name, arguments in functions.items():
                function = getattr(module, name)
                self.assertEqual(function.__module__, module.__name__)
                self.assertEqual(list(inspect.signature(function).parameters), arguments)

    def test_importing_the_package_brings_no_other_names(self):
        tree = ast.parse((PACKAGE / "__init__.py").read_text("ascii"))
        self.assertEqual([each.__class__ for each in tree.body], [ast.Expr])


class Form(unittest.TestCase):
    def test_there_are_only_python_files(self):
        others = [path for path in PACKAGE.iterdir() if path.suffix != ".py" and path.name != "__pycache__"]
        self.assertEqual(others, [])
        self.assertFalse([path for path in files() if "test" in path.name])

    def test_characters_and_sizes(self):
        for path in files():
            text = path.read_text("ascii")
            lines = text.split("\n")
            self.assertTrue(all(char == "\n" or " " <= char <= "~" for char in text), path)
            self.assertLessEqual(len(lines), 399, path)
            self.assertLessEqual(max(len(line) for line in lines), 120, path)

    def test_functions_are_short_and_undecorated(self):
        for path, tree in trees():
            for node in ast.walk(tree):
                if isinstance(node, ast.FunctionDef):
                    self.assertLessEqual(node.end_lineno - node.lineno + 1, 40, (path, node.name))
                    self.assertEqual(node.decorator_list, [], (path, node.name))

    def test_imports(self):
        for path, tree in trees():
            for node in ast.walk(tree):
                self.assertNotIsInstance(node, ast.Import, path)
                if isinstance(node, ast.ImportFrom):
                    top = node.module.split(".")[0]
                    self.assertEqual(node.level, 0, path)
                    self.assertTrue(top == "layerprint" or top in LIBRARY, (path, node.module))
                    self.assertTrue(all(each.asname is None and each.name != "*" for each in node.names), path)

    def test_no_own_name_is_one_of_an_import_or_a_builtin(self):
        for path, tree in trees():
            nodes = list(ast.walk(tree))
            taken = {each.name for node in nodes if isinstance(node, ast.ImportFrom) for each in node.names}
            taken.update(dir(builtins))
            own = {node.arg for node in nodes if isinstance(node, ast.arg)}
            own.update(node.id for node in nodes if isinstance(node, ast.Name) and isinstance(node.ctx, ast.Store))
            own.update(node.name for node in nodes if isinstance(node, ast.FunctionDef) and node.name != "__init__")
            self.assertEqual(own & taken, set(), path)

    def test_no_two_files_import_from_each_other(self):
        wanted = {}
        for path, tree in trees():
            nodes = [node for node in ast.walk(tree) if isinstance(node, ast.ImportFrom)]
            wanted[path.stem] = {node.module.split(".")[-1] for node in nodes}
        while wanted:
            free = [name for name, others in wanted.items() if not others & set(wanted)]
            self.assertTrue(free, wanted)
            for name in free:
                del wanted[name]

    def test_no_floats_no_percent_no_other_statements(self):
        banned = (ast.Div, ast.Global, ast.AsyncFunctionDef, ast.Await)
        for path, tree in trees():
            for node in ast.walk(tree):
                self.assertNotIsInstance(node, banned, path)
                if isinstance(node, ast.Constant):
                    self.assertNotIsInstance(node.value, (float, complex), path)
                    self.assertNotIn("%", node.value if isinstance(node.value, str) else "", path)

    def test_calls_are_of_own_functions_or_allowed_builtins(self):
        for path, tree in trees():
            nodes = list(ast.walk(tree))
            known = {node.name for node in nodes if isinstance(node, (ast.FunctionDef, ast.ClassDef))}
            for node in nodes:
                if isinstance(node, ast.ImportFrom):
                    known.update(each.name for each in node.names)
            for node in nodes:
                if isinstance(node, ast.Call) and isinstance(node.func, ast.Name):
                    self.assertTrue(node.func.id in known or node.func.id in BUILTINS, (path, node.func.id))


if __name__ == "__main__":
    unittest.main()
