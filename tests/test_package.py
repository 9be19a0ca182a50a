"""Point 1 and the interface: what the package's files import, call and define."""

import ast
import unittest
from pathlib import Path

PACKAGE = Path(__file__).resolve().parent.parent / "querylang"

# The words of the library that shared/LANGUAGE.md lets the package import; none is a clock, chance or a file.
LIBRARY = {
    "collections": {"defaultdict", "deque"},
    "heapq": {"heappush", "heappop", "heapify", "heapreplace", "heappushpop"},
    "itertools": {"product", "combinations", "permutations", "chain", "accumulate", "pairwise", "islice",
                  "zip_longest"},
    "math": {"gcd", "lcm", "isqrt", "comb", "perm", "factorial"},
}
OUTSIDE = {"open", "input", "print", "exec", "eval", "compile", "id", "hash", "globals", "__import__",
           "breakpoint"}

FUNCTIONS = {
    "cells.py": {"alike": ["one", "other"], "before": ["one", "other"]},
    "clauses.py": {"holds": ["clause", "row"], "places_of": ["clause"], "turned": ["clause", "places"]},
    "shapes.py": {"width": ["query", "widths"]},
    "plain.py": {"answer": ["query", "tables"]},
    "plans.py": {"plan": ["query", "widths"], "planned": ["query", "widths", "tables"]},
    "works.py": {"work": ["query", "tables"]},
}
CLASSES = {
    "errors.py": {"QueryError": ["ValueError"], "NoStep": ["QueryError"], "NoTable": ["QueryError"],
                  "NoCount": ["QueryError"], "NoColumn": ["QueryError"], "UnlikeSides": ["QueryError"]},
}


def files():
    return sorted(PACKAGE.rglob("*.py"))


def tree_of(file):
    return ast.parse(file.read_text(encoding="utf-8"))


def functions_of(name):
    return {node.name: node for node in tree_of(PACKAGE / name).body if isinstance(node, ast.FunctionDef)}


def classes_of(name):
    return {node.name: node for node in tree_of(PACKAGE / name).body if isinstance(node, ast.ClassDef)}


class NoOutside(unittest.TestCase):
    def test_each_import_is_of_the_package_or_of_the_few_words_that_may_stand(self):
        for file in files():
            for node in ast.walk(tree_of(file)):
                with self.subTest(file=file.name, line=getattr(node, "lineno", 0)):
                    self.assertNotIsInstance(node, ast.Import)
                    if isinstance(node, ast.ImportFrom):
                        self.check_import(node)

    def check_import(self, node):
        self.assertEqual(node.level, 0)
        if node.module.split(".")[0] == "querylang":
            return
        self.assertIn(node.module, LIBRARY)
        for name in node.names:
            self.assertIn(name.name, LIBRARY[node.module])

    def test_no_builtin_that_reaches_outside_is_named(self):
        for file in files():
            for node in ast.walk(tree_of(file)):
                if isinstance(node, ast.Name):
                    with self.subTest(file=file.name, line=node.lineno):
                        self.assertNotIn(node.id, OUTSIDE)


class Interface(unittest.TestCase):
    def test_each_function_is_defined_in_its_file_with_its_arguments(self):
        for name, functions in FUNCTIONS.items():
            found = functions_of(name)
            for function, arguments in functions.items():
                with self.subTest(file=name, function=function):
                    self.assertIn(function, found)
                    told = found[function].args
                    self.assertEqual([arg.arg for arg in told.args], arguments)
                    self.assertEqual(told.posonlyargs + told.kwonlyargs + told.defaults, [])
                    self.assertIsNone(told.vararg)
                    self.assertIsNone(told.kwarg)

    def test_each_class_is_defined_in_its_file_under_its_base(self):
        for name, classes in CLASSES.items():
            found = classes_of(name)
            for told, bases in classes.items():
                with self.subTest(file=name, told=told):
                    self.assertIn(told, found)
                    self.assertEqual([base.id for base in found[told].bases], bases)


class Sizes(unittest.TestCase):
    def test_files_and_lines_keep_their_sizes_and_signs(self):
        for file in files():
            text = file.read_text(encoding="utf-8")
            with self.subTest(file=file.name):
                self.assertLessEqual(len(text.splitlines()), 399)
                self.assertLessEqual(max(map(len, text.splitlines())), 120)
                self.assertTrue(all(sign == "\n" or " " <= sign <= "~" for sign in text))

    def test_functions_keep_their_size(self):
        for file in files():
            for node in ast.walk(tree_of(file)):
                if isinstance(node, ast.FunctionDef):
                    with self.subTest(file=file.name, function=node.name):
                        self.assertLessEqual(node.end_lineno - node.lineno + 1, 40)


if __name__ == "__main__":
    unittest.main()
