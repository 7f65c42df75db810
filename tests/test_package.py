"""What holds of the package as a whole (points 1 and 2, the interface)."""

import ast
import importlib
import inspect
import os
import subprocess
import sys
import unittest

TOP = os.path.dirname(os.path.dirname(os.path.abspath(__file__)))
PACKAGE = os.path.join(TOP, "hookspans")

# The module, then what it defines with its arguments, and a class's methods.
# A star ahead of an argument: it is handed in by its name alone.
INTERFACE = {
    "webs": {"Bar": ["a", "b", "c", "length", "least", "greatest"],
             "Web": ["rods", "held", "bars"]},
    "places": {"Places": ["numbers", "parts"],
               "is_within": ["web", "places"],
               "corners": ["web"]},
    "stands": {"determinant": ["web", "places"],
               "Stand": ["tops", "bottom"],
               "stand": ["web", "places"],
               "move": ["web", "places"]},
    "firmness": {"Firm": ["numbers"],
                 "LooseAt": ["places", "moved"],
                 "firm": ["web", "*inside"],
                 "is_firm": ["web", "paper", "*inside"],
                 "is_loose": ["web", "paper", "*inside"]},
    "reaches": {"Reach": ["least", "greatest", "low", "high"],
                "reach": ["web", "weights"],
                "is_reach": ["web", "weights", "paper"],
                "met": ["web", "weights", "goal"],
                "order": ["web"]},
    "bands": {"band": ["web", "weights", "bar", "*low", "*high"],
              "Widening": ["least", "greatest", "is_least", "is_greatest"],
              "widen": ["web", "bar"],
              "hangs": ["web", "weights", "bar"]},
}
METHODS = {"Bar": ["__eq__"], "Web": ["held", "hanging", "__eq__"],
           "Places": ["__eq__"], "Stand": ["__eq__"], "Firm": ["__eq__"],
           "LooseAt": ["__eq__"], "Reach": ["__eq__"], "Widening": ["__eq__"]}

# What an argument behind a star is where it is not told.
UNTOLD = {"inside": False, "low": None, "high": None}

# What the language lets in from outside, none of it a clock, chance or a file.
OUTSIDE = {"math", "itertools", "heapq", "collections", "__future__"}
BARRED = {"open", "input", "print", "hash", "id", "eval", "exec", "__import__"}

ASKED_TWICE = """
from hookspans.bands import band, hangs, widen
from hookspans.errors import BadCount
from hookspans.firmness import firm
from hookspans.places import Places, corners, is_within
from hookspans.reaches import met, order, reach
from hookspans.stands import determinant, move, stand
from hookspans.webs import Bar, Web
web = Web(4, {1: 10, 0: 0}, [Bar(0, 1, 2, 10, 2, 8), Bar(0, 2, 3, 9, 1, 3)])
print([corner.numbers for corner in corners(web)], web.held(), web.hanging())
print(is_within(web, Places([7, 4], 2)), BadCount("rods", 2).told())
print(determinant(web, Places([7, 4], 2)), vars(stand(web, Places([7, 4], 2))))
print(firm(web).numbers, vars(widen(web, 1)), order(web))
weights = [0, 0, 1, -1]
told = reach(web, weights)
print(told.least, told.greatest, told.low.numbers, told.high.numbers)
print(vars(met(web, weights, (11, 4))), band(web, weights, 0, low=(2, 1)))
print([vars(places) for places in hangs(web, weights, 1)])
loose = Web(4, {1: 12, 0: 0}, [Bar(2, 3, 0, 4, 0, 3), Bar(2, 3, 1, 4, 1, 4)])
for inside in (False, True):
    told = firm(loose, inside=inside)
    print(vars(told.places), told.moved, move(loose, told.places))
"""


def trees():
    """The parsed files of the package by their names."""
    found = {}
    for name in sorted(os.listdir(PACKAGE)):
        if name.endswith(".py"):
            with open(os.path.join(PACKAGE, name), encoding="ascii") as file:
                found[name] = ast.parse(file.read())
    return found


class TestInterface(unittest.TestCase):

    def listed(self):
        for module_name, names in INTERFACE.items():
            module = importlib.import_module("hookspans." + module_name)
            for name, arguments in names.items():
                yield module, name, arguments

    def test_defined_in_its_file(self):
        for module, name, _ in self.listed():
            with self.subTest(name=name):
                self.assertEqual(getattr(module, name).__module__,
                                 module.__name__)

    def test_arguments_in_their_order(self):
        for module, name, arguments in self.listed():
            with self.subTest(name=name):
                told = inspect.signature(getattr(module, name)).parameters
                plain = [argument.strip("*") for argument in arguments]
                self.assertEqual(list(told), plain)
                for argument, one in zip(arguments, told.values()):
                    starred = argument.startswith("*")
                    self.assertIs(one.kind, one.KEYWORD_ONLY if starred
                                  else one.POSITIONAL_OR_KEYWORD)
                    self.assertIs(one.default, UNTOLD[one.name] if starred
                                  else one.empty)

    def test_methods_stand_in_the_class_itself(self):
        for module, name, _ in self.listed():
            for method in METHODS.get(name, []):
                with self.subTest(name=name, method=method):
                    self.assertIn(method, vars(getattr(module, name)))


class TestNothingFromOutside(unittest.TestCase):

    def test_imports(self):
        for name, tree in trees().items():
            for node in ast.walk(tree):
                with self.subTest(file=name):
                    self.assertNotIsInstance(node, ast.Import)
                    if isinstance(node, ast.ImportFrom):
                        top = node.module.split(".")[0]
                        self.assertIn(top, OUTSIDE | {"hookspans"})

    def test_builtins(self):
        for name, tree in trees().items():
            used = {node.id for node in ast.walk(tree)
                    if isinstance(node, ast.Name)}
            with self.subTest(file=name):
                self.assertEqual(used & BARRED, set())

    def test_told_alike_at_each_run(self):
        told = set()
        for seed in ("0", "1", "77"):
            around = dict(os.environ, PYTHONHASHSEED=seed, PYTHONPATH=TOP)
            told.add(subprocess.run(
                [sys.executable, "-c", ASKED_TWICE], env=around, check=True,
                stdin=subprocess.DEVNULL, stdout=subprocess.PIPE).stdout)
        self.assertEqual(len(told), 1)
        self.assertNotIn(b"", told)


class TestSigns(unittest.TestCase):

    def test_texts_have_plain_signs_alone(self):
        for name, tree in trees().items():
            for node in ast.walk(tree):
                if isinstance(node, ast.Constant) and isinstance(node.value, str):
                    with self.subTest(file=name, text=node.value):
                        self.assertTrue(all(
                            sign == "\n" or " " <= sign <= "~" and sign != "%"
                            for sign in node.value))


if __name__ == "__main__":
    unittest.main()
