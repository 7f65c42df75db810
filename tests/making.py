"""Webs and helpers that several tests need."""

import unittest

from hookspans.errors import HooksError
from hookspans.webs import Bar, Web


class Always:
    """Something of no class of the package that says it is equal to all."""

    def __eq__(self, other):
        return True


def refusal_of(call, *row, **named):
    """The refusal that a call ends in, or None."""
    try:
        call(*row, **named)
    except HooksError as error:
        return error
    return None


def fan(spans, length=10):
    """A web with a bar for each span: rods 0 and 1 held, bar k's hook on 2 + k."""
    bars = [Bar(0, 1, 2 + k, length, least, greatest)
            for k, (least, greatest) in enumerate(spans)]
    return Web(len(spans) + 2, {0: 0, 1: 10}, bars)


def ring(first=(0, 1), second=(0, 1), length=2):
    """Rods 2 and 3 carry each other's bars; rod 0 is held at 0, 1 at 1.

    With hooks at x and y the determinant is n n - x (n - y), the rods stand
    at x y / (n n - x (n - y)) and n y / (n n - x (n - y)).
    """
    return Web(4, {0: 0, 1: 1}, [Bar(0, 3, 2, length, *first),
                                 Bar(2, 1, 3, length, *second)])


def beam(first, second, length=4, other=4):
    """Bars on the hanging rods 2 and 3, their hooks on 0 and 1, held at 0, 12.

    With hooks at x and y the determinant is n y - m x.
    """
    return Web(4, {0: 0, 1: 12}, [Bar(2, 3, 0, length, *first),
                                  Bar(2, 3, 1, other, *second)])


def astray(first=(1, 3), second=(0, 4)):
    """A web whose rod 3 is on no bar: it is loose at all hooks."""
    return Web(4, {0: 0, 1: 10}, [Bar(0, 1, 2, 4, *first),
                                  Bar(1, 0, 2, 4, *second)])


class Refusing(unittest.TestCase):

    def assert_refused(self, wanted, call, *row, **named):
        """Refused with the wanted class itself and the wanted fields."""
        error = refusal_of(call, *row, **named)
        self.assertIsNotNone(error, "not refused")
        self.assertIs(type(error), type(wanted))
        self.assertEqual(vars(error), vars(wanted))
