"""What is left to the hook of one bar (points 11 and 12)."""

import itertools
import random
import unittest
from fractions import Fraction

from hookspans.bands import Widening, band, hangs, widen
from hookspans.errors import BadCount, Loose, NoBar
from hookspans.firmness import Firm
from hookspans.places import Places, is_within
from hookspans.reaches import reach
from hookspans.stands import Stand
from hookspans.webs import Bar, Web

from tests.exact import (Row, determinant_of, grid, heights_of, is_firm_web,
                         many_webs, places_of, sum_of, told)
from tests.making import (Always, Refusing, astray, beam, fan, refusal_of,
                          ring)

# Loose, or firm of hooks inside of their spans alone.
LOOSE = (astray(), ring((0, 2), (0, 2)), beam((0, 3), (2, 4)),
         beam((0, 2), (2, 4)))


def firm_webs(seed, count, sizes, **named):
    return [web for web in many_webs(seed, count, sizes, **named)
            if is_firm_web(web)]


def rows_with(web, at, place, steps=1):
    """Rows over the others' spans, the hook of the bar at the place."""
    bars = list(web.bars)
    bar = bars[at]
    bars[at] = Bar(bar.a, bar.b, bar.c, bar.length, 0, 0)
    place = Fraction(place)
    rows = []
    for row in grid(Web(web.rods, web.held(), bars), steps):
        numbers = [number * place.denominator for number in row.numbers]
        numbers[at] = place.numerator * row.parts
        rows.append(Row(tuple(numbers), row.parts * place.denominator))
    return rows


def keeps(web, weights, at, place, low, high, steps=1):
    """Whether the sum is from low to high, the bar's hook at the place."""
    for row in rows_with(web, at, place, steps):
        number = sum_of(web, weights, row)
        if low is not None and number < Fraction(*low):
            return False
        if high is not None and number > Fraction(*high):
            return False
    return True


def marks(bar, found):
    """Places of a span, close to what was found, and evenly over it."""
    out = [bar.least + (bar.greatest - bar.least) * Fraction(step, 6)
           for step in range(7)]
    step = Fraction(1, 10 ** 12)
    for end in found or ():
        out += [Fraction(*end) - step, Fraction(*end), Fraction(*end) + step]
    return [place for place in out if bar.least <= place <= bar.greatest]


class TestBand(Refusing):

    # Sums of the web: its hooks' places, the second's less than the first's.
    PAIR = fan([(2, 8), (1, 3)])
    GAP = (0, 0, 1, -1)
    SHORT = Web(3, {0: 0, 1: 1}, [Bar(0, 1, 2, 1, 0, 1)])

    BY_HAND = [
        # No bounds, one, both.
        (PAIR, GAP, 0, None, None, ((2, 1), (8, 1))),
        (PAIR, GAP, 1, None, None, ((1, 1), (3, 1))),
        (PAIR, GAP, 0, (0, 1), None, ((3, 1), (8, 1))),
        (PAIR, GAP, 0, None, (4, 1), ((2, 1), (5, 1))),
        (PAIR, GAP, 0, (0, 1), (4, 1), ((3, 1), (5, 1))),
        (PAIR, GAP, 0, (1, 3), (7, 2), ((10, 3), (9, 2))),
        (PAIR, GAP, 1, (-1, 1), None, ((1, 1), (3, 1))),
        (PAIR, GAP, 1, (-1, 2), None, ((1, 1), (5, 2))),
        # One place is left, at either end or between.
        (PAIR, GAP, 0, (0, 1), (2, 1), ((3, 1), (3, 1))),
        (PAIR, GAP, 0, (5, 1), None, ((8, 1), (8, 1))),
        (PAIR, GAP, 0, None, (1, 1), ((2, 1), (2, 1))),
        (PAIR, GAP, 0, (1, 3), (7, 3), ((10, 3), (10, 3))),
        (PAIR, GAP, 1, (-1, 1), (7, 1), ((1, 1), (3, 1))),
        # None.
        (PAIR, GAP, 0, (6, 1), None, None),
        (PAIR, GAP, 0, (51, 10), None, None),
        (PAIR, GAP, 0, None, (0, 1), None),
        (PAIR, GAP, 0, (0, 1), (1, 1), None),
        (PAIR, GAP, 0, (0, 1), (199, 100), None),
        # All.
        (PAIR, GAP, 0, (-1, 1), (7, 1), ((2, 1), (8, 1))),
        (PAIR, GAP, 0, (-99, 1), (99, 1), ((2, 1), (8, 1))),
        # The lower bound above the upper one.
        (PAIR, GAP, 0, (4, 1), (0, 1), None),
        (PAIR, GAP, 0, (2, 1), (1, 1), None),
        (fan([(2, 8)]), (0, 0, 1), 0, (5, 1), (4, 1), None),
        (fan([(2, 8)]), (0, 0, 1), 0, (5, 1), (49999, 10000), None),
        (fan([(2, 8)]), (0, 0, 1), 0, (5, 1), (5, 1), ((5, 1), (5, 1))),
        (fan([(2, 8)]), (0, 0, -2), 0, (-11, 1), (-9, 1), ((9, 2), (11, 2))),
        # A span of one place.
        (fan([(5, 5)]), (0, 0, 1), 0, None, None, ((5, 1), (5, 1))),
        (fan([(5, 5)]), (0, 0, 1), 0, (5, 1), (5, 1), ((5, 1), (5, 1))),
        (fan([(5, 5)]), (0, 0, 1), 0, (51, 10), None, None),
        (fan([(5, 5)]), (0, 0, 1), 0, None, (49, 10), None),
        (fan([(5, 5), (1, 3)]), GAP, 0, (2, 1), (4, 1), ((5, 1), (5, 1))),
        (fan([(5, 5), (1, 3)]), GAP, 0, (21, 10), None, None),
        (fan([(0, 0)]), (0, 0, 1), 0, (0, 1), None, ((0, 1), (0, 1))),
        # A bar of length 1, so that bounds are missed by a whole one.
        (SHORT, (0, 0, 1), 0, (1, 1), None, ((1, 1), (1, 1))),
        (SHORT, (0, 0, 1), 0, None, (0, 1), ((0, 1), (0, 1))),
        (SHORT, (0, 0, -1), 0, (0, 1), None, ((0, 1), (0, 1))),
        (SHORT, (0, 0, 1), 0, (2, 1), None, None),
        (SHORT, (0, 0, 1), 0, None, (-1, 1), None),
        (SHORT, (0, 0, 1), 0, (1, 3), (2, 5), ((1, 3), (2, 5))),
        (Web(3, {0: 0, 1: 1}, [Bar(0, 1, 2, 1, 0, 0)]), (0, 0, 1), 0, (1, 1),
         None, None),
        # The hook does not count.
        (PAIR, (0, 0, 0, 1), 0, (1, 1), (3, 1), ((2, 1), (8, 1))),
        (PAIR, (0, 0, 0, 1), 0, (11, 10), None, None),
        (PAIR, (0, 3, 0, 0), 1, (30, 1), (30, 1), ((1, 1), (3, 1))),
        # One less the lower rod: 1 - x y / (4 - 2 x + x y).
        (ring(), (0, 1, -1, 0), 0, (9, 10), None, ((0, 1), (4, 11))),
        (ring(), (0, 1, -1, 0), 1, (9, 10), None, ((0, 1), (2, 9))),
        # The determinant below nought.
        (beam((3, 4), (0, 1)), (0, 0, 1, 0), 0, None, (17, 1),
         ((17, 5), (4, 1))),
        (beam((0, 1), (3, 4)), (0, 0, 1, 0), 0, (-3, 1), None,
         ((0, 1), (3, 5))),
    ]

    def test_by_hand(self):
        for web, weights, at, low, high, wanted in self.BY_HAND:
            with self.subTest(weights=weights, at=at, low=low, high=high):
                found = band(web, weights, at, low=low, high=high)
                self.assertEqual(found, wanted)
                if found is not None:
                    self.assertIs(type(found), tuple)
                    self.assertIs(type(found[0]), tuple)
                    self.assertIs(type(found[1]), tuple)

    def test_bounds_as_lists_and_weights_as_any_row(self):
        for web, weights, at, low, high, wanted in self.BY_HAND:
            bounds = [bound if bound is None else list(bound)
                      for bound in (low, high)]
            self.assertEqual(band(web, list(weights), at, low=bounds[0],
                                  high=bounds[1]), wanted)

    def assert_right(self, web, weights, at, low, high):
        found = band(web, weights, at, low=low, high=high)
        bar = web.bars[at]
        for place in marks(bar, found):
            wanted = keeps(web, weights, at, place, low, high)
            is_one = (found is not None
                      and Fraction(*found[0]) <= place <= Fraction(*found[1]))
            self.assertIs(is_one, wanted)
        for end in found or ():
            self.assertEqual(told(Fraction(*end)), end)
            self.assertTrue(keeps(web, weights, at, Fraction(*end), low, high,
                                  steps=3))
        return found

    def test_many(self):
        chance = random.Random(5)
        seen = set()
        webs = (firm_webs(81, 60, (1, 2), length=5)
                + firm_webs(82, 60, (2,), length=4, tame=False)
                + firm_webs(83, 30, (3,), wide=False))
        for web in webs:
            weights = [chance.randrange(-3, 4) for _ in range(web.rods)]
            paper = reach(web, weights)
            least, greatest = Fraction(*paper.least), Fraction(*paper.greatest)
            wide = greatest - least
            bounds = [None, told(least), told(greatest),
                      told(least + wide * Fraction(1, 3)),
                      told(greatest - wide * Fraction(2, 7))]
            for at in range(len(web.bars)):
                low, high = chance.choice(bounds), chance.choice(bounds)
                found = self.assert_right(web, weights, at, low, high)
                bar = web.bars[at]
                seen.add((low is None, high is None, found is None,
                          found == ((bar.least, 1), (bar.greatest, 1))))
        for only in itertools.product((False, True), repeat=2):
            self.assertIn(only + (False, True), seen)
        self.assertIn((False, True, True, False), seen)
        self.assertIn((True, False, True, False), seen)
        self.assertIn((False, False, False, False), seen)

    def test_eight_bars(self):
        web = fan([(2, 8)] * 8)
        self.assertEqual(band(web, [0, 0] + [1] * 8, 7, low=(17, 1),
                              high=(61, 1)), ((3, 1), (5, 1)))

    def test_by_name(self):
        self.assertEqual(band(high=(4, 1), bar=0, low=(0, 1), weights=self.GAP,
                              web=self.PAIR), ((3, 1), (5, 1)))
        with self.assertRaises(TypeError):
            band(self.PAIR, self.GAP, 0, (0, 1))

    def test_weights_changed_between_two_calls(self):
        weights, low = [0, 0, 1, -1], [0, 1]
        self.assertEqual(band(self.PAIR, weights, 0, low=low),
                         ((3, 1), (8, 1)))
        self.assertEqual((weights, low), ([0, 0, 1, -1], [0, 1]))
        weights[3] = -2
        self.assertEqual(band(self.PAIR, weights, 0, low=low),
                         ((6, 1), (8, 1)))
        low[0] = 1
        self.assertEqual(band(self.PAIR, weights, 0, low=low),
                         ((7, 1), (8, 1)))


class TestWideningClass(unittest.TestCase):

    ROW = ((1, 2), (7, 3), True, False)

    def assert_unlike(self, one, other):
        self.assertIs(one == other, False)
        self.assertIs(one != other, True)

    def test_fields(self):
        for least in ((1, 2), [1, 2], (), [1, 2, 3]):
            for greatest in ((7, 3), [7, 3], [-1]):
                for flags in itertools.product((False, True), repeat=2):
                    paper = Widening(least, greatest, *flags)
                    self.assertEqual((paper.least, paper.greatest),
                                     (tuple(least), tuple(greatest)))
                    self.assertIs(type(paper.least), tuple)
                    self.assertIs(type(paper.greatest), tuple)
                    self.assertIs(paper.is_least, flags[0])
                    self.assertIs(paper.is_greatest, flags[1])

    def test_by_name(self):
        self.assertEqual(
            Widening(is_greatest=False, is_least=True, greatest=(7, 3),
                     least=(1, 2)), Widening(*self.ROW))

    def test_lists_changed_behind(self):
        least, greatest = [1, 2], [7, 3]
        paper = Widening(least, greatest, True, False)
        least[0] = greatest[0] = 9
        self.assertEqual(paper, Widening(*self.ROW))

    def test_equal_by_fields(self):
        paper = Widening(*self.ROW)
        self.assertIs(paper == Widening([1, 2], [7, 3], True, False), True)
        self.assertIs(paper != Widening([1, 2], [7, 3], True, False), False)
        for at, other in enumerate(((1, 3), (8, 3), False, True)):
            row = list(self.ROW)
            row[at] = other
            self.assert_unlike(paper, Widening(*row))

    def test_equal_to_nothing_of_another_class(self):
        class Below(Widening):
            pass

        for other in (Below(*self.ROW), self.ROW, list(self.ROW), None, 1, "1",
                      Always(), Firm((1, 2)), Stand((1, 2), 3)):
            self.assert_unlike(Widening(*self.ROW), other)
        self.assert_unlike(Below(*self.ROW), Widening(*self.ROW))


class TestWiden(Refusing):

    BY_HAND = [
        # Up to the bar's ends.
        (fan([(2, 8)]), 0, ((0, 1), (10, 1), True, True)),
        (fan([(5, 5)]), 0, ((0, 1), (10, 1), True, True)),
        (fan([(0, 0)], length=1), 0, ((0, 1), (1, 1), True, True)),
        (ring(), 1, ((0, 1), (2, 1), True, True)),
        # Up to a whole place where the web is loose.
        (beam((0, 1), (3, 4)), 0, ((0, 1), (3, 1), True, False)),
        (beam((0, 1), (3, 4)), 1, ((1, 1), (4, 1), False, True)),
        (beam((3, 4), (0, 1)), 0, ((1, 1), (4, 1), False, True)),
        (beam((3, 4), (0, 1)), 1, ((0, 1), (3, 1), True, False)),
        (beam((2, 2), (3, 3)), 0, ((0, 1), (3, 1), True, False)),
        # A fraction between whole places.
        (beam((0, 1), (5, 6), 4, 6), 0, ((0, 1), (10, 3), True, False)),
        (beam((0, 1), (5, 6), 4, 6), 1, ((3, 2), (6, 1), False, True)),
        (beam((3, 4), (0, 1), 7, 9), 1, ((0, 1), (27, 7), True, False)),
        (beam((3, 4), (0, 1), 7, 9), 0, ((7, 9), (7, 1), False, True)),
        # Loose just at the bar's end.
        (ring(), 0, ((0, 1), (2, 1), True, False)),
        (beam((0, 2), (4, 4)), 0, ((0, 1), (4, 1), True, False)),
        (beam((2, 3), (0, 0)), 0, ((0, 1), (4, 1), False, True)),
        (beam((0, 0), (2, 3)), 1, ((0, 1), (4, 1), False, True)),
        (beam((4, 4), (0, 2)), 1, ((0, 1), (4, 1), True, False)),
        (Web(3, {0: 3, 1: 4}, [Bar(2, 1, 0, 7, 2, 3)]), 0,
         ((0, 1), (7, 1), True, False)),
        (Web(3, {0: 3, 1: 4}, [Bar(1, 2, 0, 7, 2, 3)]), 0,
         ((0, 1), (7, 1), False, True)),
        # Already from end to end.
        (fan([(0, 10)]), 0, ((0, 1), (10, 1), True, True)),
    ]

    def test_by_hand(self):
        for web, at, wanted in self.BY_HAND:
            with self.subTest(at=at, wanted=wanted):
                found = widen(web, at)
                self.assertIs(type(found), Widening)
                self.assertEqual((found.least, found.greatest, found.is_least,
                                  found.is_greatest), wanted)
                self.assertIs(type(found.least), tuple)
                self.assertIs(type(found.is_least), bool)
                self.assertIs(type(found.is_greatest), bool)

    def test_both_ends_by_the_others(self):
        # With the first hook at u, this one at x, the determinant is -4 times
        # x (2 - 4 u) + 8 u: 2 x at u = 0, 16 - 6 x at u = 2.
        def web(own):
            return Web(5, {4: -8}, [Bar(0, 1, 3, 4, 0, 2), own,
                                    Bar(0, 2, 3, 4, 1, 1),
                                    Bar(4, 0, 2, 4, 2, 2)])

        self.assertEqual(widen(web(Bar(4, 1, 2, 4, 1, 2)), 1),
                         Widening((0, 1), (8, 3), False, False))
        self.assertEqual(widen(web(Bar(1, 4, 2, 4, 2, 3)), 1),
                         Widening((4, 3), (4, 1), False, False))

    def signs_at(self, web, at, place):
        numbers = [determinant_of(web, row)
                   for row in rows_with(web, at, place)]
        return {(number > 0) - (number < 0) for number in numbers}

    def assert_end(self, web, at, end, is_there, span_end, bar_end):
        """The end's place: loose just there, or the bar's end and firm."""
        signs = self.signs_at(web, at, span_end)
        self.assertEqual(told(end), (end.numerator, end.denominator))
        if is_there:
            self.assertEqual(end, bar_end)
            self.assertEqual(self.signs_at(web, at, end), signs)
        else:
            self.assertIn(0, self.signs_at(web, at, end))
            self.assertLessEqual(self.signs_at(web, at, end), signs | {0})
        for share in (Fraction(1, 2), Fraction(1, 10 ** 9)):
            between = end + (span_end - end) * share
            self.assertEqual(self.signs_at(web, at, between), signs)

    def test_many(self):
        seen = set()
        webs = (firm_webs(85, 80, (1, 2, 3), length=5)
                + firm_webs(86, 200, (2, 3), length=4, tame=False)
                + firm_webs(87, 6, (4, 5), wide=False))
        for web in webs:
            for at, bar in enumerate(web.bars):
                found = widen(web, at)
                least, greatest = (Fraction(*found.least),
                                   Fraction(*found.greatest))
                self.assertEqual((told(least), told(greatest)),
                                 (found.least, found.greatest))
                self.assert_end(web, at, least, found.is_least, bar.least, 0)
                self.assert_end(web, at, greatest, found.is_greatest,
                                bar.greatest, bar.length)
                seen.add((found.is_least, least == 0))
                seen.add((found.is_greatest, greatest == bar.length))
        self.assertEqual(seen, {(True, True), (False, True), (False, False)})

    def test_eight_bars(self):
        self.assertEqual(widen(fan([(2, 8)] * 8), 7),
                         Widening((0, 1), (10, 1), True, True))

    def test_by_name(self):
        self.assertEqual(widen(bar=0, web=ring()), widen(ring(), 0))

    def test_told_alike_and_nothing_changed(self):
        web = ring()
        self.assertEqual(widen(web, 0), widen(web, 0))
        self.assertEqual(band(web, [0, 0, 1, 0], 0), band(web, [0, 0, 1, 0], 0))
        self.assertEqual(web, ring())


class TestHangs(Refusing):

    def assert_pair(self, web, weights, at, pair):
        self.assertIs(type(pair), tuple)
        first, second = pair
        for places in pair:
            self.assertIs(type(places), Places)
            self.assertIs(is_within(web, places), True)
        unlike = [k for k, (x, y) in enumerate(zip(places_of(first),
                                                   places_of(second)))
                  if x != y]
        self.assertEqual(unlike, [at])
        self.assertNotEqual(sum_of(web, weights, first),
                            sum_of(web, weights, second))

    def test_a_hook_that_counts(self):
        for web, weights, at in (
                (fan([(2, 8)]), [0, 0, 1], 0),
                (fan([(2, 3)]), [0, 0, -7], 0),
                (fan([(2, 8), (1, 3)]), [0, 0, 1, -1], 0),
                (fan([(2, 8), (1, 3)]), [0, 0, 1, -1], 1),
                (ring(), [0, 0, 1, 0], 0), (ring(), [0, 0, 1, 0], 1),
                (beam((0, 1), (3, 4)), [0, 0, 1, 0], 1)):
            with self.subTest(weights=weights, at=at):
                self.assert_pair(web, weights, at, hangs(web, weights, at))

    def test_a_hook_that_does_not_count(self):
        for web, weights, at in (
                (fan([(2, 8)]), [0, 0, 0], 0),
                (fan([(2, 8)]), [5, -3, 0], 0),
                (fan([(5, 5)]), [0, 0, 1], 0),
                (fan([(2, 8), (1, 3)]), [0, 0, 0, 1], 0),
                (fan([(2, 8), (1, 3)]), [1, 1, 1, 0], 1),
                (ring((1, 1), (0, 1)), [0, 0, 1, 1], 0),
                (ring((0, 1), (0, 0)), [0, 0, 1, 1], 0),
                # Level ends: the hook may sit anywhere.
                (Web(3, {0: 4, 1: 4}, [Bar(0, 1, 2, 6, 1, 5)]), [0, 0, 1], 0)):
            with self.subTest(weights=weights, at=at):
                self.assertIsNone(hangs(web, weights, at))

    # The sum is y (2 - x) / (4 - 2 x + x y) at hooks x and y, doubled: at
    # y = 0 it is 0, at y = 1 it is 1, whatever x is, but not between these.
    AGAINST = [0, 0, -1, 2]

    def test_two_hooks_that_count_against_one_another(self):
        web = ring()
        for y in (0, 1):
            sums = {sum_of(web, self.AGAINST, Row((x, y), 1)) for x in (0, 1)}
            self.assertEqual(sums, {Fraction(y)})
            alone = ring((0, 1), (y, y))
            self.assertIsNone(hangs(alone, self.AGAINST, 0))
        pair = hangs(web, self.AGAINST, 0)
        self.assert_pair(web, self.AGAINST, 0, pair)
        y = places_of(pair[0])[1]
        self.assertTrue(0 < y < 1)

    def test_each_of_three_places_of_another_hook_is_looked_at(self):
        # The same sum with y up to 2: the hook counts at y = 2, not at 0 and
        # 1; then with y counted from the other end of its bar.
        about = Web(4, {0: 0, 1: 1}, [Bar(0, 3, 2, 2, 0, 1),
                                      Bar(1, 2, 3, 2, 0, 2)])
        for web, y in ((ring((0, 1), (0, 2)), 2), (about, 0)):
            for other in (0, 1, 2):
                sums = {sum_of(web, self.AGAINST, Row((x, other), 1))
                        for x in (0, 1)}
                self.assertEqual(len(sums), 2 if other == y else 1)
            pair = hangs(web, self.AGAINST, 0)
            self.assert_pair(web, self.AGAINST, 0, pair)

    def test_two_rings_side_by_side(self):
        bars = [Bar(0, 3, 2, 2, 0, 1), Bar(2, 1, 3, 2, 0, 1),
                Bar(0, 5, 4, 2, 0, 1), Bar(4, 1, 5, 2, 0, 1)]
        web = Web(6, {0: 0, 1: 1}, bars)
        first, second = self.AGAINST + [0, 0], [0, 0, 0, 0, -1, 2]
        self.assert_pair(web, first, 0, hangs(web, first, 0))
        self.assertIsNone(hangs(web, first, 2))
        self.assertIsNone(hangs(web, first, 3))
        self.assert_pair(web, second, 2, hangs(web, second, 2))
        self.assertIsNone(hangs(web, second, 0))

    # The first hook counts only where both of the others are strictly
    # between the ends of their spans.
    BETWEEN = Web(5, {3: -7, 4: 7}, [Bar(1, 3, 2, 2, 0, 1),
                                     Bar(3, 0, 1, 2, 0, 1),
                                     Bar(4, 2, 0, 2, 0, 2)])
    COUNTS = [-1, 2, 0, 0, 0]

    def test_where_both_of_the_others_must_be_between(self):
        for y, z in itertools.product(range(5), range(9)):
            sums = {sum_of(self.BETWEEN, self.COUNTS, Row((4 * x, y, z), 4))
                    for x in (0, 1)}
            self.assertEqual(len(sums), 2 if 0 < y < 4 and 0 < z < 8 else 1)
        pair = hangs(self.BETWEEN, self.COUNTS, 0)
        self.assert_pair(self.BETWEEN, self.COUNTS, 0, pair)

    def test_where_one_of_the_others_stays_at_an_end(self):
        for y, z in ((0, None), (1, None), (None, 0), (None, 2)):
            bars = list(self.BETWEEN.bars)
            if y is not None:
                bars[1] = Bar(3, 0, 1, 2, y, y)
            if z is not None:
                bars[2] = Bar(4, 2, 0, 2, z, z)
            web = Web(5, {3: -7, 4: 7}, bars)
            self.assertIsNone(hangs(web, self.COUNTS, 0))

    def test_many(self):
        chance = random.Random(9)
        seen = set()
        webs = (firm_webs(88, 60, (1, 2, 3), length=4)
                + firm_webs(89, 120, (2, 3), length=3, tame=False))
        for web in webs:
            weights = [chance.choice((-1, 0, 0, 2)) for _ in range(web.rods)]
            for at, bar in enumerate(web.bars):
                pair = hangs(web, weights, at)
                seen.add(pair is None)
                if pair is not None:
                    self.assert_pair(web, weights, at, pair)
                    continue
                ends = [[sum_of(web, weights, row)
                         for row in rows_with(web, at, place, steps=4)]
                        for place in (bar.least, bar.greatest)]
                self.assertEqual(ends[0], ends[1])
        self.assertEqual(seen, {False, True})

    def test_six_bars(self):
        web = fan([(2, 8)] * 6)
        for at in (0, 5):
            weights = [0] * 8
            self.assertIsNone(hangs(web, weights, at))
            weights[2 + at] = 1
            self.assert_pair(web, weights, at, hangs(web, weights, at))
            self.assertIsNone(hangs(web, weights, 3))

    def test_seven_bars_and_eight(self):
        for many in (7, 8):
            web = fan([(2, 8)] * many)
            for at in (0, many - 1):
                self.assert_refused(BadCount("hangs", many), hangs, web,
                                    [0] * (many + 2), at)

    def test_by_name(self):
        self.assertEqual(hangs(bar=0, weights=self.AGAINST, web=ring()),
                         hangs(ring(), self.AGAINST, 0))

    def test_told_alike_and_weights_looked_at_anew(self):
        web, weights = fan([(2, 8), (1, 3)]), [0, 0, 1, 0]
        first = hangs(web, weights, 0)
        self.assertEqual(hangs(web, tuple(weights), 0), first)
        self.assertEqual(weights, [0, 0, 1, 0])
        weights[2] = 0
        self.assertIsNone(hangs(web, weights, 0))
        weights[3] = 1
        self.assertIsNone(hangs(web, weights, 0))
        self.assertIsNotNone(hangs(web, weights, 1))


class TestRefusals(Refusing):

    def calls(self):
        return [band, hangs,
                lambda web, weights, bar: band(web, weights, bar, low=(9, 1),
                                               high=(-9, 1)),
                lambda web, weights, bar: widen(web, bar)]

    def summing(self):
        return self.calls()[:3]

    def test_no_bar(self):
        for web in (fan([(2, 8)]), ring(), fan([(2, 8)] * 6)):
            many = len(web.bars)
            for bar in (-1, -many, many, many + 1, -10 ** 30, 10 ** 30):
                for call in self.calls():
                    with self.subTest(bar=bar):
                        self.assert_refused(NoBar(bar), call, web,
                                            [0] * web.rods, bar)

    def test_weights(self):
        for web in (ring(), fan([(2, 8)] * 6)):
            for many in (0, web.rods - 1, web.rods + 1):
                for call in self.summing():
                    self.assert_refused(BadCount("weights", many), call, web,
                                        [0] * many, 0)

    def test_loose(self):
        for web, call in itertools.product(LOOSE, self.calls()):
            for bar in (0, 1):
                self.assert_refused(Loose(), call, web, [0] * 4, bar)

    def test_no_bar_ahead_of_the_rest(self):
        for web, call in itertools.product(LOOSE, self.calls()):
            for bar in (-1, 2):
                self.assert_refused(NoBar(bar), call, web, [0] * 4, bar)
                self.assert_refused(NoBar(bar), call, web, [0] * 3, bar)
        for bar in (-1, 7, 8):
            self.assert_refused(NoBar(bar), hangs, fan([(2, 8)] * 7), [], bar)
            self.assert_refused(NoBar(bar), hangs, fan([(2, 8)] * 7), [0] * 9,
                                bar)

    def test_weights_ahead_of_loose(self):
        for web, call in itertools.product(LOOSE, self.summing()):
            self.assert_refused(BadCount("weights", 3), call, web, [0] * 3, 0)
            self.assert_refused(BadCount("weights", 5), call, web, [0] * 5, 1)

    def test_too_many_bars_ahead_of_weights_and_loose(self):
        web = fan([(2, 8)] * 7)
        self.assert_refused(BadCount("hangs", 7), hangs, web, [0] * 8, 0)
        bars = list(web.bars[:6]) + [web.bars[0]]
        loose = Web(9, {0: 0, 1: 10}, bars)
        self.assert_refused(BadCount("hangs", 7), hangs, loose, [0] * 9, 0)
        self.assert_refused(BadCount("hangs", 7), hangs, loose, [0] * 2, 0)

    def test_refusals_change_nothing(self):
        weights = [0, 0, 1]
        for web, call in itertools.product(LOOSE, self.calls()):
            self.assertIsNotNone(refusal_of(call, web, weights, 0))
        self.assertEqual(weights, [0, 0, 1])
        self.assertEqual(LOOSE[0], astray())

    def test_heights_are_as_the_document_has_them(self):
        # The by-hand sums above rest on this.
        for x, y in itertools.product(range(2), repeat=2):
            whole = 4 - 2 * x + x * y
            self.assertEqual(heights_of(ring(), Row((x, y), 1)),
                             [0, 1, Fraction(x * y, whole),
                              Fraction(2 * y, whole)])


if __name__ == "__main__":
    unittest.main()
