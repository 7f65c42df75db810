"""Webs and helpers that several tests need."""

import unittest

from hookspans.errors import HooksError
from hookspans.webs import Bar, Web


class Always:
    """Something of no class of the package that says it is equal to all."""

    def __eq__(self, other):
        return True


def refusal_of(call, *row, **named):
    """The refusal that a call ends in, or None."""
    try:
        call(*row, **named)
    except HooksError as error:
        return error
    return None


def fan(spans, length=10):
    """A web with a bar for each span: rods 0 and 1 held, bar k's hook on 2 + k."""
    bars = [Bar(0, 1, 2 + k, length, least, greatest)
            for k, (least, greatest) in enumerate(spans)]
    return Web(len(spans) + 2, {0: 0, 1: 10}, bars)


class Refusing(unittest.TestCase):

    def assert_refused(self, wanted, call, *row, **named):
        """Refused with the wanted class itself and the wanted fields."""
        error = refusal_of(call, *row, **named)
        self.assertIsNotNone(error, "not refused")
        self.assertIs(type(error), type(wanted))
        self.assertEqual(vars(error), vars(wanted))
