"""The form of the package: some rules of its language that are easily broken unawares."""

import ast
import inspect
import unittest
from pathlib import Path

import lastcopied
from lastcopied import alike, console, heard, hearings, joins, lines, patterns, rows, texts, times

FOLDER = Path(lastcopied.__file__).parent
FILES = sorted(FOLDER.glob("*.py"))
SIGNATURES = {
    rows: {
        "is_row": ["value"], "is_phases": ["row", "value"],
        "number_at": ["row", "phases", "time"], "arrivals": ["row", "phases", "first", "many"],
        "pattern": ["row", "phases"], "settled": ["row", "phases"],
    },
    patterns: {
        "patterns": ["row"], "least_phases": ["row", "pattern"], "totals": ["row", "many"],
        "turned": ["row", "pattern"], "loses": ["row"], "repeats": ["row"],
    },
    heard: {
        "patterns_with": ["row", "stretch"], "next_steps": ["row", "stretch"],
        "sure_steps": ["row", "stretch"], "telling": ["row", "pattern"], "doubt": ["row"],
    },
    alike: {
        "alike": ["one", "other"], "within": ["one", "other"], "parting": ["one", "other"],
        "can_go": ["row", "index"], "least_rows": ["row"],
    },
    times: {
        "ages": ["row"], "waits": ["row"], "age_bounds": ["row", "phases"],
        "wait_bounds": ["row", "phases"], "sure_age": ["row", "phases"],
    },
    joins: {
        "differences": ["one", "other"], "together": ["one", "other"],
        "apart_phases": ["one", "other"],
    },
    texts: {
        "write_row": ["row"], "read_row": ["text"], "write_steps": ["stretch"],
        "read_steps": ["text"], "write_phases": ["row", "phases"], "read_phases": ["row", "text"],
    },
}
# The parameters of the methods that the document lists for a class, without their own object.
METHODS = {
    lines.Line: {
        "__init__": ["tie", "periods"], "patterns": [], "without": ["index"], "least_lines": [],
        "walk": ["phases"], "__call__": ["phases", "time"], "__len__": [], "__bool__": [],
        "__invert__": [],
    },
    hearings.Hearing: {
        "__init__": ["row"], "hear": ["step"], "undo": [], "sure": [], "twin": [], "trying": [],
        "tried": ["steps"],
    },
    hearings.CountingHearing: {"__init__": ["row"]},
    hearings.CappedHearing: {"__init__": ["row", "most"], "hear": ["step"]},
    hearings.CappedCountingHearing: {"__init__": ["row", "most"]},
    console.Console: {"__init__": ["row"], "execute": ["command"]},
}
SIGNS = ("__getitem__", "__setitem__", "__contains__", "__add__", "__radd__", "__iadd__", "__eq__",
         "__ne__", "__le__", "__lt__")
PROPERTIES = {
    lines.Line: ("row", "tie", "periods"),
    hearings.Hearing: ("row", "heard", "left", "following"),
    hearings.CountingHearing: ("calls",),
    hearings.CappedHearing: ("most",),
}
LIBRARY = {
    "math": {"gcd", "lcm", "isqrt", "comb", "perm", "factorial"},
    "itertools": {"product", "combinations", "permutations", "chain", "accumulate", "pairwise",
                  "islice", "zip_longest"},
    "heapq": {"heappush", "heappop", "heapify", "heapreplace", "heappushpop"},
    "collections": {"defaultdict", "deque"},
}
BARRED = (ast.AsyncFunctionDef, ast.Await, ast.Div, ast.Import)


class Form(unittest.TestCase):

    def test_the_folder_holds_files_alone(self):
        names = [path.name for path in FOLDER.iterdir() if path.name != "__pycache__"]
        self.assertEqual(sorted(names), [path.name for path in FILES])
        self.assertIn("__init__.py", names)

    def test_sizes_and_characters(self):
        for path in FILES:
            text = path.read_text(encoding="utf-8")
            self.assertTrue(all(sign == "\n" or " " <= sign <= "~" for sign in text), path)
            self.assertLessEqual(len(text.splitlines()), 399, path)
            self.assertLessEqual(max(map(len, text.splitlines())), 120, path)
            for node in ast.walk(ast.parse(text)):
                if isinstance(node, ast.FunctionDef):
                    self.assertLessEqual(node.end_lineno - node.lineno + 1, 40, node.name)

    def test_imports(self):
        for path in FILES:
            for node in ast.walk(ast.parse(path.read_text())):
                if not isinstance(node, ast.ImportFrom):
                    continue
                names = {alias.name for alias in node.names}
                self.assertFalse(any(alias.asname for alias in node.names), path)
                if node.module in LIBRARY:
                    self.assertLessEqual(names, LIBRARY[node.module], path)
                else:
                    self.assertTrue(node.module.startswith("lastcopied."), path)
                    self.assertNotIn("*", names)

    def test_no_barred_statements(self):
        for path in FILES:
            for node in ast.walk(ast.parse(path.read_text())):
                self.assertNotIsInstance(node, BARRED, path)
                if isinstance(node, ast.Constant):
                    self.assertNotIsInstance(node.value, float, path)

    def test_the_interface_stands_where_it_is_listed(self):
        for module, functions in SIGNATURES.items():
            for name, wanted in functions.items():
                function = getattr(module, name)
                self.assertEqual(function.__module__, module.__name__)
                self.assertEqual(list(inspect.signature(function).parameters), wanted)

    def test_the_methods_stand_in_their_classes(self):
        for owner, methods in METHODS.items():
            for name, wanted in methods.items():
                parameters = inspect.signature(vars(owner)[name]).parameters
                self.assertEqual(list(parameters)[1:], wanted, (owner, name))
        for name in SIGNS:
            self.assertIn(name, vars(lines.Line))
        self.assertIsInstance(vars(lines.Line)["read"], classmethod)
        self.assertEqual(list(inspect.signature(lines.Line.read).parameters), ["text"])
        for owner, names in PROPERTIES.items():
            for name in names:
                self.assertIsInstance(vars(owner)[name], property)

    def test_the_classes_stand_where_they_are_listed(self):
        for module, names in ((lines, ["Line"]), (console, ["Console"]),
                              (hearings, ["Hearing", "CountingHearing", "CappedHearing",
                                          "CappedCountingHearing"])):
            for name in names:
                self.assertEqual(getattr(module, name).__module__, module.__name__)

    def test_no_changes_in_place_of_local_names(self):
        # A class has += of its own, so that += is nowhere plainly one of numbers (L5).
        for path in FILES:
            for node in ast.walk(ast.parse(path.read_text())):
                self.assertNotIsInstance(node, (ast.AugAssign, ast.GeneratorExp, ast.Lambda), path)
