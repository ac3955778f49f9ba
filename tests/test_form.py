"""The form of the package: some rules of its language that are easily broken unawares."""

import ast
import inspect
import unittest
from pathlib import Path

import lastcopied
from lastcopied import alike, heard, joins, patterns, rows, times

FOLDER = Path(lastcopied.__file__).parent
FILES = sorted(FOLDER.glob("*.py"))
SIGNATURES = {
    rows: {
        "is_row": ["value"], "is_phases": ["row", "value"],
        "number_at": ["row", "phases", "time"], "arrivals": ["row", "phases", "first", "many"],
        "pattern": ["row", "phases"], "settled": ["row", "phases"],
    },
    patterns: {
        "patterns": ["row"], "least_phases": ["row", "pattern"], "totals": ["row", "many"],
        "turned": ["row", "pattern"], "loses": ["row"], "repeats": ["row"],
    },
    heard: {
        "patterns_with": ["row", "stretch"], "next_steps": ["row", "stretch"],
        "sure_steps": ["row", "stretch"], "telling": ["row", "pattern"], "doubt": ["row"],
    },
    alike: {
        "alike": ["one", "other"], "within": ["one", "other"], "parting": ["one", "other"],
        "can_go": ["row", "index"], "least_rows": ["row"],
    },
    times: {
        "ages": ["row"], "waits": ["row"], "age_bounds": ["row", "phases"],
        "wait_bounds": ["row", "phases"], "sure_age": ["row", "phases"],
    },
    joins: {
        "differences": ["one", "other"], "together": ["one", "other"],
        "apart_phases": ["one", "other"],
    },
}
LIBRARY = {
    "math": {"gcd", "lcm", "isqrt", "comb", "perm", "factorial"},
    "itertools": {"product", "combinations", "permutations", "chain", "accumulate", "pairwise",
                  "islice", "zip_longest"},
    "heapq": {"heappush", "heappop", "heapify", "heapreplace", "heappushpop"},
    "collections": {"defaultdict", "deque"},
}
BARRED = (ast.AsyncFunctionDef, ast.Await, ast.Div, ast.Import)


class Form(unittest.TestCase):

    def test_the_folder_holds_files_alone(self):
        names = [path.name for path in FOLDER.iterdir() if path.name != "__pycache__"]
        self.assertEqual(sorted(names), [path.name for path in FILES])
        self.assertIn("__init__.py", names)

    def test_sizes_and_characters(self):
        for path in FILES:
            text = path.read_text(encoding="utf-8")
            self.assertTrue(all(sign == "\n" or " " <= sign <= "~" for sign in text), path)
            self.assertLessEqual(len(text.splitlines()), 399, path)
            self.assertLessEqual(max(map(len, text.splitlines())), 120, path)
            for node in ast.walk(ast.parse(text)):
                if isinstance(node, ast.FunctionDef):
                    self.assertLessEqual(node.end_lineno - node.lineno + 1, 40, node.name)

    def test_imports(self):
        for path in FILES:
            for node in ast.walk(ast.parse(path.read_text())):
                if not isinstance(node, ast.ImportFrom):
                    continue
                names = {alias.name for alias in node.names}
                self.assertFalse(any(alias.asname for alias in node.names), path)
                if node.module in LIBRARY:
                    self.assertLessEqual(names, LIBRARY[node.module], path)
                else:
                    self.assertTrue(node.module.startswith("lastcopied."), path)
                    self.assertNotIn("*", names)

    def test_no_barred_statements(self):
        for path in FILES:
            for node in ast.walk(ast.parse(path.read_text())):
                self.assertNotIsInstance(node, BARRED, path)
                if isinstance(node, ast.Constant):
                    self.assertNotIsInstance(node.value, float, path)

    def test_the_interface_stands_where_it_is_listed(self):
        for module, functions in SIGNATURES.items():
            for name, wanted in functions.items():
                function = getattr(module, name)
                self.assertEqual(function.__module__, module.__name__)
                self.assertEqual(list(inspect.signature(function).parameters), wanted)
