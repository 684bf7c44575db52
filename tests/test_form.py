"""The form of the package: its interface, and the rules of LANGUAGE.md that can be counted."""

import ast
import pathlib
import re
import unittest
import warnings

from pagewake.client import Client
from pagewake.server import Server

PACKAGE = pathlib.Path(__file__).resolve().parent.parent / "pagewake"
FILES = sorted(PACKAGE.rglob("*.py"))

# File -> name -> arguments; for a class those of each method that the file must define in it.
INTERFACE = {
    "errors.py": {"PageFault": {}, "ProgramFault": {}},
    "checking.py": {"check": ["program"], "templates": ["contents"]},
    "values.py": {"value": ["expression", "scope", "looked"]},
    "names.py": {"lay_out": ["contents", "scope", "looked"], "parts_of": ["path"]},
    "pages.py": {
        "make_page": ["program", "store", "cells", "present"],
        "components_of": ["page"],
        "shown": ["nodes"],
        "sight": ["nodes"],
        "flat": ["nodes"],
    },
    "worlds.py": {
        "first_world": ["program", "present"],
        "settle": ["program", "store", "cells", "present"],
        "page_of": ["program", "world"],
        "cells_at": ["world", "path"],
    },
    "deeds.py": {
        "do": ["program", "world", "deed"],
        "run": ["program", "present", "deeds"],
        "worlds": ["program", "present", "deeds"],
        "meaning": ["nodes", "path"],
        "field": ["nodes", "path"],
        "done_by": ["program", "world", "deed"],
    },
    "marks.py": {"write_page": ["page"], "write_part": ["k", "reads", "nodes"]},
    "reading.py": {"read": ["text"]},
    "server.py": {"Server": {"__init__": ["program"], "resolve": ["k"], "render": []}},
    "drawing.py": {
        "needs": ["program", "first", "before", "after", "asleep"],
        "Numbers": {"__init__": [], "number": ["path"], "keep": ["paths"]},
    },
    "client.py": {
        "Client": {
            "__init__": ["program"],
            "feed": ["text"],
            "start": [],
            "event": ["number", "urgent"],
            "work": ["calls"],
            "code": ["c"],
            "wants": [],
            "enter": ["number", "value"],
            "nodes": [],
            "sight": [],
        },
    },
    "patches.py": {
        "patch": ["before", "after"],
        "apply_patch": ["tree", "operations"],
        "fewest": ["before", "after"],
    },
    "records.py": {
        "judge": ["program", "first", "deeds", "record", "tree"],
        "shown_behind": ["program", "first", "deeds", "record", "number"],
    },
    "sleepers.py": {
        "live_actions": ["program"],
        "may_be_called": ["program"],
        "sleepers": ["program"],
        "never_wanted": ["program"],
    },
}
LIBRARY = {
    "heapq": ("heappush", "heappop", "heapify", "heapreplace", "heappushpop"),
    "math": ("gcd", "lcm", "isqrt", "comb", "perm", "factorial"),
    "itertools": (
        "product", "combinations", "permutations",
        "chain", "accumulate", "pairwise", "islice", "zip_longest",
    ),
    "collections": ("defaultdict",),
    "__future__": ("annotations",),
}


def arguments(function):
    return [argument.arg for argument in function.args.args]


def methods(body):
    return {node.name: arguments(node) for node in body if isinstance(node, ast.FunctionDef)}


class InterfaceTest(unittest.TestCase):
    def test_each_name_is_defined_in_its_file(self):
        for name, listed in INTERFACE.items():
            tree = ast.parse((PACKAGE / name).read_text())
            functions = methods(tree.body)
            classes = {node.name: methods(node.body) for node in tree.body if isinstance(node, ast.ClassDef)}
            for what, form in listed.items():
                with self.subTest(file=name, name=what):
                    if isinstance(form, list):
                        self.assertEqual(functions[what], form)
                    else:
                        found = {method: classes[what].get(method) for method in form}
                        self.assertEqual(found, {method: ["self"] + form[method] for method in form})


    def test_the_fields_of_the_classes(self):
        fields = {
            Server: ("sent", "ready"),
            Client: ("deeds", "taken", "awake", "started", "whole", "world", "codes", "record"),
        }
        for made, names in fields.items():
            program = ("program", (("component", (), (), ()),), (), ())
            self.assertLessEqual(set(names), set(vars(made(program))), made)


class FormTest(unittest.TestCase):
    def test_the_folder_has_python_files_alone(self):
        for path in PACKAGE.rglob("*"):
            if "__pycache__" in path.parts:
                continue
            with self.subTest(path=str(path)):
                if path.is_dir():
                    self.assertTrue((path / "__init__.py").is_file())
                else:
                    self.assertRegex(path.name, r"^[a-z0-9_]+\.py$")
        self.assertTrue((PACKAGE / "__init__.py").is_file())

    def test_characters_and_sizes(self):
        for path in FILES:
            text = path.read_bytes().decode("ascii")
            with self.subTest(path=str(path)):
                self.assertIsNone(re.search(r"[^ -~\n]", text))
                self.assertLessEqual(len(text.splitlines()), 399)
                self.assertLessEqual(max([len(line) for line in text.splitlines()], default=0), 120)

    def test_functions_have_at_most_40_lines(self):
        for path in FILES:
            for node in ast.walk(ast.parse(path.read_text())):
                if isinstance(node, ast.FunctionDef):
                    with self.subTest(path=str(path), function=node.name):
                        self.assertLessEqual(node.end_lineno - node.lineno + 1, 40)

    def test_imports(self):
        for path in FILES:
            for node in ast.walk(ast.parse(path.read_text())):
                with self.subTest(path=str(path)):
                    self.assertFalse(isinstance(node, ast.Import) and path.name != "__main__.py")
                    if isinstance(node, ast.ImportFrom):
                        self.assert_allowed(node)

    def assert_allowed(self, node):
        self.assertEqual(node.level, 0)
        names = [one.name for one in node.names]
        if node.module in LIBRARY:
            self.assertLessEqual(set(names), set(LIBRARY[node.module]))
            return
        self.assertRegex(node.module, r"^pagewake\.[a-z0-9_]+$")
        self.assertNotIn("*", names)

    def test_python_gives_no_warning(self):
        for path in FILES:
            with self.subTest(path=str(path)), warnings.catch_warnings():
                warnings.simplefilter("error")
                compile(path.read_text(), str(path), "exec")


if __name__ == "__main__":
    unittest.main()
