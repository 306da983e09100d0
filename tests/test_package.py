"""What holds of the package as a whole: its interface, and that nothing comes from outside."""

import ast
import importlib
import inspect
import os
import subprocess
import sys
import unittest

ROOT = os.path.dirname(os.path.dirname(os.path.abspath(__file__)))
PACKAGE = os.path.join(ROOT, "movecollect")

INTERFACE = {
    "errors": {"HeapError": None, "NoThing": None, "NoField": None, "NoRoot": None},
    "heaps": {
        "started": ["many"],
        "sound": ["heap"],
        "field": ["heap", "pointer", "k"],
        "made": ["heap", "fields"],
        "hold": ["heap", "k", "value"],
        "put": ["heap", "pointer", "k", "value"],
    },
    "minor": {"come_young": ["heap"], "minor": ["heap", "patience"]},
    "major": {"come_both": ["heap"], "major": ["heap"]},
    "shapes": {"shape": ["heap"]},
    "plays": {"play": ["many", "room", "patience", "deeds"]},
}

OUTSIDE = {
    "open", "input", "print", "exec", "eval", "compile", "globals", "locals", "vars", "hash",
    "id", "breakpoint", "__import__", "__builtins__",
}

PROBE = """
from movecollect.heaps import hold, made, put, started
from movecollect.major import come_both, major
from movecollect.minor import come_young, minor
from movecollect.plays import play
from movecollect.shapes import shape
heap = started(3)
for k in range(40):
    heap, pointer = made(heap, (k, heap[2][k % 3], None))
    heap = hold(heap, k % 3, pointer)
    heap = put(heap, pointer, 2, heap[2][(k + 1) % 3])
    if k % 7 == 0:
        print(come_young(heap), come_both(heap), shape(heap), major(heap))
        heap = minor(heap, 1)
print(heap)
deeds = [("make", k % 5, (("root", (k + 1) % 5), ("root", k % 3), k)) for k in range(60)]
print(play(5, 7, 2, deeds))
"""


def sources():
    for name in sorted(os.listdir(PACKAGE)):
        if name != "__pycache__":
            with open(os.path.join(PACKAGE, name), encoding="utf-8") as file:
                yield name, file.read()


class InterfaceTest(unittest.TestCase):
    def test_names_and_arguments(self):
        for name, things in INTERFACE.items():
            module = importlib.import_module("movecollect." + name)
            for word, arguments in things.items():
                thing = getattr(module, word)
                self.assertEqual(thing.__module__, module.__name__)
                if arguments is None:
                    self.assertTrue(inspect.isclass(thing))
                else:
                    self.assertEqual(list(inspect.signature(thing).parameters), arguments)


class OutsideTest(unittest.TestCase):
    def test_imports_come_from_the_package_alone(self):
        for name, text in sources():
            for node in ast.walk(ast.parse(text)):
                self.assertNotIsInstance(node, ast.Import, name)
                if isinstance(node, ast.ImportFrom):
                    self.assertEqual(node.level, 0, name)
                    self.assertEqual(node.module.split(".")[0], "movecollect", name)

    def test_no_builtin_that_reaches_outside(self):
        for name, text in sources():
            words = {node.id for node in ast.walk(ast.parse(text)) if isinstance(node, ast.Name)}
            self.assertEqual(words & OUTSIDE, set(), name)

    def test_the_same_in_each_run(self):
        told = set()
        for seed in ("0", "1", "77"):
            place = dict(os.environ, PYTHONHASHSEED=seed, PYTHONPATH=ROOT)
            done = subprocess.run(
                [sys.executable, "-B", "-c", PROBE], env=place, capture_output=True, check=True
            )
            told.add(done.stdout)
        self.assertEqual(len(told), 1)
        self.assertNotEqual(told, {b""})


class FormTest(unittest.TestCase):
    def test_sizes_and_signs(self):
        for name, text in sources():
            self.assertRegex(name, r"\A[a-z_]+\.py\Z")
            self.assertRegex(text, r"\A[ -~\n]*\Z", name)
            lines = text.split("\n")
            self.assertLessEqual(len(lines) - 1, 399, name)
            self.assertLessEqual(max(map(len, lines)), 120, name)

    def test_functions_are_short(self):
        for name, text in sources():
            for node in ast.walk(ast.parse(text)):
                if isinstance(node, ast.FunctionDef):
                    self.assertLessEqual(node.end_lineno - node.lineno + 1, 40, name)


if __name__ == "__main__":
    unittest.main()
