"""The interface by its names and files, and what ../shared/LANGUAGE.md says of files, lines and functions."""

import ast
import pathlib
import unittest

PACKAGE = pathlib.Path(__file__).resolve().parent.parent / "patchover"

# The functions of the interface by their files, with their arguments.
FUNCTIONS = {
    "pieces.py": {"bytes_of": ["numbers"], "numbers_of": ["some"]},
    "patches.py": {
        "done": ["patch", "edition"], "needs": ["patch"], "makes": ["patch"], "cells": ["patch"],
        "plain": ["patch"], "joined": ["patches"],
    },
    "coding.py": {"coded": ["patch"], "decoded": ["some"], "size": ["patch"]},
    "finding.py": {"least": ["old", "new"]},
    "hanging.py": {
        "hangs": ["patch"], "order": ["patch"], "ring": ["patch"],
        "follows": ["patch", "told"], "is_ring": ["patch", "told"],
    },
    "carrying.py": {"lightest": ["patch"], "brought": ["patch", "pieces", "edition"]},
    "stepping.py": {"steps": ["patch", "order"], "marks": ["steps"], "unsafe": ["steps", "marks"]},
    "cutting.py": {"histories": ["edition", "patch"], "all_end": ["edition", "patch", "cuts"]},
    "shops.py": {"again": ["deeds"]},
    "ways.py": {"way": ["shop", "one", "other"], "far": ["shop", "name", "most"]},
    "images.py": {
        "device_bytes": ["device"], "shop_bytes": ["shop"], "device_of": ["some"], "shop_of": ["some"],
    },
    "notes.py": {"written": ["patch"], "read": ["text"], "played": ["shop", "text"], "script_of": ["shop"]},
}

# The classes likewise, with the arguments of their methods.
CLASSES = {
    "devices.py": {
        "Device": {
            "__init__": ["edition"], "begin": ["patch"], "go": ["many"], "cut": [], "wake": [], "edition": [],
            "peek": ["cell"], "old": [], "wear": [], "places_worn": [], "under_way": [], "stands": [],
        },
    },
    "shops.py": {
        "Shop": {
            "__init__": [], "do": ["deed"], "put": ["name", "edition"], "lean": ["name", "base"], "whole": ["name"],
            "drop": ["name"], "cut": ["number"], "tidy": [], "cost": [], "give": ["name"], "send": ["number", "name"],
            "go": ["number", "many"], "wake": ["number"], "sent": [], "names": [], "chain_of": ["name"],
            "wear": ["number"], "deeds": [], "edition": ["name"], "base_of": ["name"], "patch_of": ["name"],
            "least_kept": [], "holds": ["number"], "stands": ["number"], "bytes_of": ["number"], "back": [],
        },
    },
}


def sources():
    """Tell the files of the package with their texts."""
    return {path.name: path.read_text("utf-8") for path in sorted(PACKAGE.glob("*.py"))}


def arguments_of(body):
    """Tell the functions of a body with their arguments."""
    return {row.name: [one.arg for one in row.args.args] for row in body if isinstance(row, ast.FunctionDef)}


class TestInterface(unittest.TestCase):
    def test_each_function_is_defined_in_its_file(self):
        texts = sources()
        for name, functions in FUNCTIONS.items():
            defined = arguments_of(ast.parse(texts[name]).body)
            for function, arguments in functions.items():
                with self.subTest(name, function=function):
                    self.assertEqual(defined.get(function), arguments)

    def test_each_method_is_defined_in_its_class(self):
        texts = sources()
        for name, classes in CLASSES.items():
            bodies = {row.name: row.body for row in ast.parse(texts[name]).body if isinstance(row, ast.ClassDef)}
            for kind, methods in classes.items():
                defined = arguments_of(bodies[kind])
                for method, arguments in methods.items():
                    with self.subTest(name, kind=kind, method=method):
                        self.assertEqual(defined.get(method), ["self", *arguments])


class TestLanguage(unittest.TestCase):
    def test_the_package_holds_sources_alone(self):
        others = [
            path.name for path in PACKAGE.iterdir() if path.suffix != ".py" and path.name != "__pycache__"
        ]
        self.assertEqual(others, [])

    def test_files_and_lines_are_short_and_plain(self):
        for name, text in sources().items():
            with self.subTest(name):
                self.assertLessEqual(len(text.splitlines()), 399)
                self.assertLessEqual(max([len(line) for line in text.splitlines()], default=0), 120)
                self.assertEqual([sign for sign in text if sign != "\n" and not " " <= sign <= "~"], [])

    def test_functions_are_short(self):
        for name, text in sources().items():
            for node in ast.walk(ast.parse(text)):
                if isinstance(node, ast.FunctionDef):
                    with self.subTest(name, function=node.name):
                        self.assertLessEqual(node.end_lineno - node.lineno + 1, 40)

    def test_imports_are_of_the_package_or_those_of_the_library_that_may_be(self):
        for name, text in sources().items():
            for node in ast.walk(ast.parse(text)):
                with self.subTest(name):
                    self.assertNotIsInstance(node, ast.Import)
                    if isinstance(node, ast.ImportFrom):
                        self.assertEqual(node.level, 0)
                        names = [one.name for one in node.names]
                        if node.module == "itertools":
                            self.assertLessEqual(set(names), {"combinations", "permutations"})
                        else:
                            self.assertTrue(node.module.startswith("patchover."))


if __name__ == "__main__":
    unittest.main()
