"""What holds of the package as a whole (points 1 and 2, the interface)."""

import ast
import importlib
import inspect
import os
import subprocess
import sys
import unittest

from hookspans.firmness import Firm, LooseAt
from hookspans.places import Places
from hookspans.reaches import reach
from hookspans.webs import Bar, Web

TOP = os.path.dirname(os.path.dirname(os.path.abspath(__file__)))
PACKAGE = os.path.join(TOP, "hookspans")

# The module, then what it defines with its arguments, and a class's methods.
# A star ahead of an argument: it is handed in by its name alone.
INTERFACE = {
    "errors": {"BadCount": ["what", "count"], "NoRod": ["rod"],
               "SameRod": ["rod"], "BadSpan": ["bar"],
               "NotSquare": ["bars", "wanted"], "BadPlace": ["bar"],
               "Loose": [], "NotLoose": [], "Beyond": ["least", "greatest"],
               "NoBar": ["bar"], "NotHeld": ["rod"], "NoName": ["name"],
               "NoWeb": ["name"], "NoBack": [], "BadRow": ["row"],
               "HooksError": []},
    "webs": {"Bar": ["a", "b", "c", "length", "least", "greatest"],
             "Web": ["rods", "held", "bars"]},
    "places": {"Places": ["numbers", "parts"],
               "is_within": ["web", "places"],
               "corners": ["web"]},
    "stands": {"determinant": ["web", "places"],
               "Stand": ["tops", "bottom"],
               "stand": ["web", "places"],
               "move": ["web", "places"]},
    "firmness": {"Firm": ["numbers"],
                 "LooseAt": ["places", "moved"],
                 "firm": ["web", "*inside"],
                 "is_firm": ["web", "paper", "*inside"],
                 "is_loose": ["web", "paper", "*inside"]},
    "reaches": {"Reach": ["least", "greatest", "low", "high"],
                "reach": ["web", "weights"],
                "is_reach": ["web", "weights", "paper"],
                "met": ["web", "weights", "goal"],
                "order": ["web"]},
    "bands": {"band": ["web", "weights", "bar", "*low", "*high"],
              "Widening": ["least", "greatest", "is_least", "is_greatest"],
              "widen": ["web", "bar"],
              "hangs": ["web", "weights", "bar"]},
    "leads": {"led": ["web", "heights", "*parts"]},
    "book": {"Book": []},
    "webtexts": {"web_rows": ["web"], "read_web": ["rows"],
                 "fraction_text": ["fraction"], "places_text": ["places"]},
    "desk": {"Desk": []},
}
METHODS = {"Bar": ["__eq__"], "Web": ["held", "hanging", "__eq__"],
           "Places": ["__eq__"], "Stand": ["__eq__"], "Firm": ["__eq__"],
           "LooseAt": ["__eq__"], "Reach": ["__eq__"], "Widening": ["__eq__"],
           "Book": ["keep", "drop", "web", "names", "span", "claim", "claims",
                    "broken", "many", "back"],
           "Desk": ["tell"]}
METHODS.update({name: ["told"] for name in INTERFACE["errors"]
                if name != "HooksError"})

# The methods that are handed something, with their arguments.
HANDED = {"keep": ["name", "web"], "drop": ["name"], "web": ["name"],
          "span": ["name", "bar", "least", "greatest"],
          "claim": ["name", "weights", "least"], "tell": ["row"]}

# What an argument behind a star is where it is not told.
UNTOLD = {"inside": False, "low": None, "high": None, "parts": 1}

# What the language lets in from outside, none of it a clock, chance or a file.
OUTSIDE = {"math", "itertools", "heapq", "collections", "__future__"}
BARRED = {"open", "input", "print", "hash", "id", "eval", "exec", "__import__"}

BARS = [Bar(0, 1, 2, 10, 2, 8), Bar(0, 2, 3, 9, 1, 3)]
WEB = Web(4, {0: 0, 1: 10}, BARS)
PLACES = Places([7, 4], 2)
LOOSE_PLACES = Places([2, 2], 1)
LOOSE = Web(4, {0: 0, 1: 12}, [Bar(2, 3, 0, 4, 0, 3), Bar(2, 3, 1, 4, 1, 4)])
WEIGHTS = [0, 0, 1, -1]
REACH = reach(WEB, WEIGHTS)

# What each that is handed something can be handed, in the order of arguments.
CALLS = {
    "Bar": (0, 1, 2, 10, 2, 8),
    "Web": (4, {0: 0, 1: 10}, BARS),
    "Places": ([7, 4], 2),
    "is_within": (WEB, PLACES),
    "corners": (WEB,),
    "determinant": (WEB, PLACES),
    "Stand": ([0, 10, 3], 2),
    "stand": (WEB, PLACES),
    "move": (LOOSE, LOOSE_PLACES),
    "Firm": ([90, 90, 90, 90],),
    "LooseAt": (LOOSE_PLACES, [0, 0, 1, 1]),
    "firm": (LOOSE, True),
    "is_firm": (WEB, Firm([90, 90, 90, 90]), True),
    "is_loose": (LOOSE, LooseAt(LOOSE_PLACES, [0, 0, 1, -1]), True),
    "Reach": ((1, 2), (3, 2), PLACES, LOOSE_PLACES),
    "reach": (WEB, WEIGHTS),
    "is_reach": (WEB, WEIGHTS, REACH),
    "met": (WEB, WEIGHTS, (5, 1)),
    "order": (WEB,),
    "band": (WEB, WEIGHTS, 0, (2, 1), (5, 1)),
    "Widening": ((0, 1), (5, 2), True, False),
    "widen": (WEB, 1),
    "hangs": (WEB, WEIGHTS, 1),
    "led": (WEB, [0, 20, 7, 3], 2),
    "web_rows": (WEB,),
    "read_web": (["rods 3", "held 0 0", "held 1 1", "bar 0 1 2 4 1 2"],),
    "fraction_text": ((-3, 2),),
    "places_text": (PLACES,),
}

ASKED_TWICE = """
from hookspans.bands import band, hangs, widen
from hookspans.book import Book
from hookspans.desk import Desk
from hookspans.errors import BadCount
from hookspans.firmness import firm
from hookspans.leads import led
from hookspans.places import Places, corners, is_within
from hookspans.reaches import met, order, reach
from hookspans.stands import determinant, move, stand
from hookspans.webs import Bar, Web
from hookspans.webtexts import places_text, read_web, web_rows
web = Web(4, {1: 10, 0: 0}, [Bar(0, 1, 2, 10, 2, 8), Bar(0, 2, 3, 9, 1, 3)])
print([corner.numbers for corner in corners(web)], web.held(), web.hanging())
print(is_within(web, Places([7, 4], 2)), BadCount("rods", 2).told())
print(determinant(web, Places([7, 4], 2)), vars(stand(web, Places([7, 4], 2))))
print(firm(web).numbers, vars(widen(web, 1)), order(web))
weights = [0, 0, 1, -1]
told = reach(web, weights)
print(told.least, told.greatest, told.low.numbers, told.high.numbers)
print(vars(met(web, weights, (11, 4))), band(web, weights, 0, low=(2, 1)))
print([vars(places) for places in hangs(web, weights, 1)])
loose = Web(4, {1: 12, 0: 0}, [Bar(2, 3, 0, 4, 0, 3), Bar(2, 3, 1, 4, 1, 4)])
for inside in (False, True):
    told = firm(loose, inside=inside)
    print(vars(told.places), told.moved, move(loose, told.places))
print(led(web, [0, 20, 7, 3], parts=2), places_text(Places([7, 4], 2)))
print(web_rows(web), read_web(web_rows(web)) == web)
book = Book()
for name in ("z", "a", "m1"):
    book.keep(name, web)
    print(book.claim(name, weights, (3, 2)), book.claim(name, weights, (1, 2)))
book.span("m1", 1, 0, 9)
book.drop("a")
print(book.names(), book.claims(), book.broken(), book.many())
desk = Desk()
for row in ("keep a " + " ; ".join(web_rows(web)), "keep b " + web_rows(web)[0],
            "order a", "claim a 9 6 0 0 1 -1", "names", "broken", "back", "x"):
    print(desk.tell(row))
"""


def trees():
    """The parsed files of the package by their names."""
    found = {}
    for name in sorted(os.listdir(PACKAGE)):
        if name.endswith(".py"):
            with open(os.path.join(PACKAGE, name), encoding="ascii") as file:
                found[name] = ast.parse(file.read())
    return found


class TestInterface(unittest.TestCase):

    def listed(self):
        for module_name, names in INTERFACE.items():
            module = importlib.import_module("hookspans." + module_name)
            for name, arguments in names.items():
                yield module, name, arguments

    def test_defined_in_its_file(self):
        for module, name, _ in self.listed():
            with self.subTest(name=name):
                self.assertEqual(getattr(module, name).__module__,
                                 module.__name__)

    def test_arguments_in_their_order(self):
        for module, name, arguments in self.listed():
            with self.subTest(name=name):
                thing = getattr(module, name)
                if arguments or module.__name__ != "hookspans.errors":
                    self.assert_arguments(thing, arguments)
                else:
                    # Python tells no arguments of a class without __init__.
                    self.assertNotIn("__init__", vars(thing))

    def assert_arguments(self, call, arguments):
        told = inspect.signature(call).parameters
        plain = [argument.strip("*") for argument in arguments]
        self.assertEqual(list(told), plain)
        for argument, one in zip(arguments, told.values()):
            starred = argument.startswith("*")
            self.assertIs(one.kind, one.KEYWORD_ONLY if starred
                          else one.POSITIONAL_OR_KEYWORD)
            self.assertIs(one.default, UNTOLD[one.name] if starred
                          else one.empty)

    def test_methods_stand_in_the_class_itself(self):
        for module, name, _ in self.listed():
            for method in METHODS.get(name, []):
                with self.subTest(name=name, method=method):
                    self.assertIn(method, vars(getattr(module, name)))

    def test_arguments_of_methods(self):
        for module, name, _ in self.listed():
            for method in METHODS.get(name, []):
                if not method.startswith("__"):
                    with self.subTest(name=name, method=method):
                        self.assert_arguments(
                            getattr(getattr(module, name), method),
                            ["self"] + HANDED.get(method, []))

    def test_all_by_their_names(self):
        # Those of errors and of methods are called so in tests of their own.
        handed = [(module, name, arguments)
                  for module, name, arguments in self.listed()
                  if arguments and module.__name__ != "hookspans.errors"]
        self.assertEqual({name for _, name, _ in handed}, set(CALLS))
        for module, name, arguments in handed:
            call = getattr(module, name)
            names = [argument.strip("*") for argument in arguments]
            plain = len([name for name in arguments if not name.startswith("*")])
            row = CALLS[name]
            by_name = list(zip(names, row))
            with self.subTest(name=name):
                told = call(*row[:plain], **dict(by_name[plain:]))
                self.assertIsNotNone(told)
                self.assertEqual(call(**dict(reversed(by_name))), told)
                if plain < len(row):
                    with self.assertRaises(TypeError):
                        call(*row)


class TestNothingFromOutside(unittest.TestCase):

    def test_imports(self):
        for name, tree in trees().items():
            for node in ast.walk(tree):
                with self.subTest(file=name):
                    self.assertNotIsInstance(node, ast.Import)
                    if isinstance(node, ast.ImportFrom):
                        top = node.module.split(".")[0]
                        self.assertIn(top, OUTSIDE | {"hookspans"})

    def test_builtins(self):
        for name, tree in trees().items():
            used = {node.id for node in ast.walk(tree)
                    if isinstance(node, ast.Name)}
            with self.subTest(file=name):
                self.assertEqual(used & BARRED, set())

    def test_told_alike_at_each_run(self):
        told = set()
        for seed in ("0", "1", "77"):
            around = dict(os.environ, PYTHONHASHSEED=seed, PYTHONPATH=TOP)
            told.add(subprocess.run(
                [sys.executable, "-c", ASKED_TWICE], env=around, check=True,
                stdin=subprocess.DEVNULL, stdout=subprocess.PIPE).stdout)
        self.assertEqual(len(told), 1)
        self.assertNotIn(b"", told)


class TestSigns(unittest.TestCase):

    def test_texts_have_plain_signs_alone(self):
        for name, tree in trees().items():
            for node in ast.walk(tree):
                if isinstance(node, ast.Constant) and isinstance(node.value, str):
                    with self.subTest(file=name, text=node.value):
                        self.assertTrue(all(
                            sign == "\n" or " " <= sign <= "~" and sign != "%"
                            for sign in node.value))


if __name__ == "__main__":
    unittest.main()
