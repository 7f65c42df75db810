"""The table's determinant, stands and moves (points 5, 6 and 7)."""

import itertools
import math
import unittest
from fractions import Fraction

from hookspans.errors import BadCount, BadPlace, Loose, NotLoose
from hookspans.places import Places
from hookspans.stands import Stand, determinant, move, stand
from hookspans.webs import Bar, Web

from tests.exact import (determinant_of, grid, heights_of, is_right_move,
                         many_webs, misses)
from tests.making import (Always, Refusing, astray, beam, fan, refusal_of,
                          ring)

MILLION = 10 ** 6

THREE = Web(5, {0: -7, 4: 5}, [Bar(4, 2, 1, 4, 0, 2), Bar(1, 3, 2, 5, 2, 3),
                               Bar(2, 0, 3, 3, 1, 1)])


def turned_about(web, at):
    """The web with the ends of a bar exchanged."""
    bars = list(web.bars)
    bar = bars[at]
    bars[at] = Bar(bar.b, bar.a, bar.c, bar.length,
                   bar.length - bar.greatest, bar.length - bar.least)
    return Web(web.rods, web.held(), bars)


def counted_about(web, places, at):
    """Places with one counted from the bar's other end."""
    numbers = list(places.numbers)
    numbers[at] = web.bars[at].length * places.parts - numbers[at]
    return Places(numbers, places.parts)


def some_places(web):
    """Places of a web, in several parts, within the spans and beyond."""
    told = [Places(row.numbers, row.parts) for row in grid(web, 3)]
    told = told[::max(1, len(told) // 6)]
    told.append(Places([0 for _ in web.bars], 1))
    told.append(Places([bar.length for bar in web.bars], 1))
    told.append(Places([bar.length * (3 + k) for k, bar in
                        enumerate(web.bars)], 11))
    return told


def all_kinds():
    """Webs of each size, with hooks that may be on held rods, too."""
    return (many_webs(11, 30, (1, 2, 3), length=4)
            + many_webs(12, 40, (2, 3), length=3, tame=False)
            + many_webs(13, 12, (4, 5, 6))
            + many_webs(14, 6, (7, 8))
            + many_webs(15, 12, (4, 5), tame=False))


class TestDeterminantByHand(unittest.TestCase):

    def test_one_bar(self):
        hook = Web(3, {0: 3, 1: 4}, [Bar(0, 1, 2, 7, 0, 7)])
        end_a = Web(3, {0: 3, 1: 4}, [Bar(2, 1, 0, 7, 0, 7)])
        end_b = Web(3, {0: 3, 1: 4}, [Bar(1, 2, 0, 7, 0, 7)])
        away = Web(4, {0: 3, 1: 4, 2: 1}, [Bar(0, 1, 2, 7, 0, 7)])
        for number, parts in ((0, 1), (3, 1), (7, 1), (5, 2), (1, 9), (62, 9)):
            places = Places([number], parts)
            with self.subTest(number=number, parts=parts):
                self.assertEqual(determinant(hook, places), 7 * parts)
                self.assertEqual(determinant(end_a, places),
                                 number - 7 * parts)
                self.assertEqual(determinant(end_b, places), -number)
                self.assertEqual(determinant(away, places), 0)

    def test_two_bars(self):
        told = [([0, 0], 1, 4), ([0, 1], 1, 4), ([1, 0], 1, 2), ([1, 1], 1, 3),
                ([2, 0], 1, 0), ([2, 2], 1, 4), ([1, 1], 2, 13),
                ([3, 1], 2, 7), ([1, 2], 3, 32)]
        for numbers, parts, wanted in told:
            with self.subTest(numbers=numbers, parts=parts):
                places = Places(numbers, parts)
                self.assertEqual(determinant(ring(), places), wanted)

    def test_two_bars_on_hanging_rods(self):
        web = beam((0, 4), (0, 6), other=6)
        for x, y in itertools.product(range(5), range(7)):
            with self.subTest(x=x, y=y):
                self.assertEqual(determinant(web, Places([x, y], 1)),
                                 4 * y - 6 * x)

    def test_three_bars(self):
        self.assertEqual(determinant(THREE, Places([1, 2, 1], 1)), 35)
        self.assertEqual(determinant(THREE, Places([3, 5, 2], 2)), 230)
        self.assertEqual(determinant(THREE, Places([0, 0, 0], 1)), 60)
        self.assertEqual(determinant(THREE, Places([4, 5, 3], 1)), 60)

    def test_held_rods_are_left_out(self):
        bars = [Bar(0, 3, 2, 5, 1, 4), Bar(2, 1, 3, 5, 1, 4)]
        for places in (Places([1, 3], 1), Places([7, 9], 2)):
            numbers = {determinant(Web(4, {0: low, 1: high}, bars), places)
                       for low in (-9, 0, 4) for high in (-2, 0, 8)}
            self.assertEqual(len(numbers), 1)

    def test_columns_are_the_hanging_rods_rising(self):
        one, other = Bar(0, 1, 2, 3, 0, 3), Bar(0, 1, 3, 5, 0, 5)
        places = Places([1, 1], 1)
        held = {0: 0, 1: 0}
        self.assertEqual(determinant(Web(4, held, [one, other]), places), 15)
        self.assertEqual(determinant(Web(4, held, [other, one]), places), -15)


class TestDeterminant(unittest.TestCase):

    def test_as_the_table_has_it(self):
        for web in all_kinds():
            for places in some_places(web):
                self.assertEqual(determinant(web, places),
                                 determinant_of(web, places))

    def test_where_numbers_are_large(self):
        parts = 10 ** 12 + 39
        for web in many_webs(24, 6, (7, 8), length=MILLION):
            numbers = [bar.length * parts // (k + 2)
                       for k, bar in enumerate(web.bars)]
            for told in (Places(numbers, parts), Places(numbers[::-1], parts)):
                self.assertEqual(determinant(web, told),
                                 determinant_of(web, told))
                self.assertNotEqual(determinant(web, told), 0)

    def test_more_parts_are_those_in_lowest_terms(self):
        for web in many_webs(21, 20, (1, 2, 3)):
            for places in some_places(web):
                for many in (2, 7):
                    more = Places([number * many for number in places.numbers],
                                  places.parts * many)
                    self.assertEqual(determinant(web, more),
                                     determinant(web, places))

    def test_a_bar_turned_about(self):
        for web in many_webs(22, 20, (1, 2, 3, 4), tame=False):
            for places in some_places(web):
                for at in range(len(web.bars)):
                    self.assertEqual(
                        determinant(turned_about(web, at),
                                    counted_about(web, places, at)),
                        determinant(web, places))

    def test_two_bars_exchanged(self):
        for web in many_webs(23, 20, (2, 3, 4)):
            for places in some_places(web):
                for i, j in itertools.combinations(range(len(web.bars)), 2):
                    order = list(range(len(web.bars)))
                    order[i], order[j] = j, i
                    other = Web(web.rods, web.held(),
                                [web.bars[k] for k in order])
                    numbers = [places.numbers[k] for k in order]
                    self.assertEqual(
                        determinant(other, Places(numbers, places.parts)),
                        -determinant(web, places))

    def test_beyond_the_span_but_on_the_bar(self):
        web = fan([(5, 5), (2, 3)])
        for numbers in ([0, 0], [10, 10], [10, 0], [6, 4]):
            with self.subTest(numbers=numbers):
                self.assertEqual(determinant(web, Places(numbers, 1)), 100)

    def test_by_name(self):
        self.assertEqual(determinant(places=Places([1, 1], 1), web=ring()), 3)


class TestStraight(unittest.TestCase):

    def lines(self):
        """Webs and places that differ in one hook alone, by even steps."""
        for web in many_webs(31, 40, (1, 2, 3)):
            for places in some_places(web)[:3]:
                for at, bar in enumerate(web.bars):
                    rows = []
                    for step in range(4):
                        numbers = [3 * number for number in places.numbers]
                        numbers[at] = step * bar.length * places.parts
                        rows.append(Places(numbers, 3 * places.parts))
                    yield web, rows

    def assert_even(self, numbers):
        steps = {later - sooner
                 for sooner, later in itertools.pairwise(numbers)}
        self.assertEqual(len(steps), 1)

    def test_determinant_in_each_hook(self):
        for web, rows in self.lines():
            self.assert_even([
                Fraction(determinant(web, places),
                         places.parts ** len(web.bars)) for places in rows])

    def test_tops_where_that_is_the_bottom(self):
        seen = 0
        for web, rows in self.lines():
            if not all(determinant(web, places) for places in rows):
                continue
            seen += 1
            found = [stand(web, places) for places in rows]
            for rod in range(web.rods):
                self.assert_even([
                    Fraction(one.tops[rod] * determinant(web, places),
                             one.bottom * places.parts ** len(web.bars))
                    for one, places in zip(found, rows)])
        self.assertGreater(seen, 50)


class TestStandClass(unittest.TestCase):

    def assert_unlike(self, one, other):
        self.assertIs(one == other, False)
        self.assertIs(one != other, True)

    def test_fields(self):
        for tops in ([1, 2, 3], (1, 2, 3), [], (), list(range(40)), [-4]):
            for bottom in (1, 7, 10 ** 30):
                told = Stand(tops, bottom)
                self.assertIs(type(told.tops), tuple)
                self.assertEqual(told.tops, tuple(tops))
                self.assertEqual(told.bottom, bottom)
        told = Stand(bottom=3, tops=[1, 2])
        self.assertEqual((told.tops, told.bottom), ((1, 2), 3))

    def test_made_by_hand_is_refused_nothing(self):
        for tops in ([], [0], [0, 0], [4, 6], [1] * 30):
            for bottom in (0, -1, 2, -6):
                self.assertIsNone(refusal_of(Stand, tops, bottom))

    def test_list_changed_behind(self):
        tops = [1, 2]
        told = Stand(tops, 3)
        tops[0] = 9
        tops.append(4)
        self.assertEqual(told.tops, (1, 2))

    def test_equal_by_both(self):
        self.assertIs(Stand([1, 2], 3) == Stand((1, 2), 3), True)
        self.assertIs(Stand([1, 2], 3) != Stand((1, 2), 3), False)
        for other in (Stand([1, 2], 5), Stand([2, 1], 3), Stand([1], 3),
                      Stand([1, 2, 0], 3), Stand([1, -2], 3)):
            self.assert_unlike(Stand([1, 2], 3), other)

    def test_equal_to_nothing_of_another_class(self):
        class Below(Stand):
            pass

        class Alike:
            tops = (1, 2)
            bottom = 3

        for other in (Below([1, 2], 3), Alike(), ((1, 2), 3), (1, 2), None,
                      3, "1 2", Always(), Places([1, 2], 3), ring()):
            self.assert_unlike(Stand([1, 2], 3), other)
        self.assert_unlike(Below([1, 2], 3), Stand([1, 2], 3))


class TestStand(Refusing):

    BY_HAND = [
        (fan([(0, 10)]), [3], 1, (0, 10, 3), 1),
        (fan([(0, 10)]), [7], 2, (0, 20, 7), 2),
        (fan([(0, 10), (0, 10)]), [1, 6], 3, (0, 30, 1, 6), 3),
        (fan([(0, 10)]), [0], 1, (0, 10, 0), 1),
        (ring(), [1, 1], 1, (0, 3, 1, 2), 3),
        (ring(), [0, 1], 1, (0, 2, 0, 1), 2),
        (ring(), [1, 0], 1, (0, 1, 0, 0), 1),
        (ring(), [1, 1], 2, (0, 13, 1, 4), 13),
        (beam((0, 1), (3, 4)), [1, 3], 1, (0, 12, -6, 18), 1),
        (beam((0, 1), (3, 4)), [0, 4], 1, (0, 12, 0, 12), 1),
        # The hooks exchanged, so that the determinant is below nought.
        (beam((3, 4), (0, 1)), [3, 1], 1, (0, 12, 18, -6), 1),
        (Web(3, {0: 0, 1: 0}, [Bar(0, 1, 2, 6, 1, 5)]), [4], 1, (0, 0, 0), 1),
        (Web(3, {0: -6, 1: -4}, [Bar(0, 1, 2, 6, 1, 5)]), [2], 1,
         (-18, -12, -16), 3),
        (Web(3, {1: -6, 2: 9}, [Bar(1, 0, 2, 6, 1, 5)]), [2], 1,
         (39, -6, 9), 1),
        # Three rods held, no bar between two of them.
        (Web(4, {0: 1, 2: 1, 3: 5}, [Bar(0, 3, 1, 4, 1, 3)]), [1], 2,
         (2, 3, 2, 10), 2),
    ]

    def test_by_hand(self):
        for web, numbers, parts, tops, bottom in self.BY_HAND:
            with self.subTest(numbers=numbers, parts=parts, tops=tops):
                told = stand(web, Places(numbers, parts))
                self.assertIs(type(told), Stand)
                self.assertIs(type(told.tops), tuple)
                self.assertEqual((told.tops, told.bottom), (tops, bottom))

    def firm_ones(self):
        for web in all_kinds():
            for places in some_places(web):
                number = determinant_of(web, places)
                if number:
                    yield web, places, number

    def test_each_bar_straight_in_lowest_terms(self):
        signs = set()
        for web, places, number in self.firm_ones():
            told = stand(web, places)
            signs.add(number > 0)
            self.assertEqual(len(told.tops), web.rods)
            self.assertGreaterEqual(told.bottom, 1)
            self.assertEqual(math.gcd(told.bottom, *told.tops), 1)
            for rod, height in web.held().items():
                self.assertEqual(told.tops[rod], height * told.bottom)
            self.assertFalse(any(misses(web, places, told.tops)))
        self.assertEqual(signs, {True, False})

    def test_heights_by_another_rule(self):
        for web, places, _ in self.firm_ones():
            told = stand(web, places)
            self.assertEqual([Fraction(top, told.bottom) for top in told.tops],
                             heights_of(web, places))

    def test_refused_where_the_determinant_is_nought(self):
        refused = 0
        for web in all_kinds():
            for places in some_places(web):
                if determinant_of(web, places) == 0:
                    refused += 1
                    self.assert_refused(Loose(), stand, web, places)
        self.assertGreater(refused, 50)

    def test_told_alike_and_nothing_changed(self):
        held = {1: 1, 0: 0}
        bars = [Bar(0, 3, 2, 2, 0, 1), Bar(2, 1, 3, 2, 0, 1)]
        numbers = [1, 3]
        web, places = Web(4, held, bars), Places(numbers, 2)
        self.assertEqual(stand(web, places), stand(web, places))
        self.assertEqual(determinant(web, places), determinant(web, places))
        self.assertEqual(web, ring())
        self.assertEqual(places, Places([1, 3], 2))
        self.assertEqual(list(held.items()), [(1, 1), (0, 0)])
        self.assertEqual(numbers, [1, 3])

    def test_by_name(self):
        self.assertEqual(stand(places=Places([1, 1], 1), web=ring()),
                         Stand((0, 3, 1, 2), 3))


class TestMove(Refusing):

    def test_by_hand(self):
        # Only up to the sign is it not free.
        told = [(ring((0, 2), (0, 2)), [2, 0], 1, (0, 0, 1, 1)),
                (astray(), [1, 1], 1, None),
                (beam((0, 4), (0, 4)), [1, 1], 1, (0, 0, -1, 3)),
                (beam((0, 4), (0, 6), other=6), [2, 3], 1, (0, 0, 1, -1)),
                (beam((0, 4), (0, 4)), [3, 3], 2, (0, 0, 3, -5)),
                (Web(3, {0: 3, 1: 4}, [Bar(2, 1, 0, 7, 0, 7)]), [7], 1,
                 (0, 0, 1)),
                (Web(3, {1: 3, 2: 4}, [Bar(1, 0, 2, 7, 0, 7)]), [0], 1,
                 (1, 0, 0)),
                (Web(3, {0: 3, 1: 3}, [Bar(2, 1, 0, 7, 0, 7)]), [7], 1,
                 (0, 0, 1))]
        for web, numbers, parts, wanted in told:
            with self.subTest(numbers=numbers, wanted=wanted):
                places = Places(numbers, parts)
                moved = move(web, places)
                self.assertTrue(is_right_move(web, places, moved))
                if wanted is not None:
                    self.assertIn(moved, [wanted,
                                          tuple(-step for step in wanted)])

    def test_right_where_loose_and_refused_else(self):
        loose = 0
        for web in all_kinds():
            for places in some_places(web):
                if determinant_of(web, places):
                    self.assert_refused(NotLoose(), move, web, places)
                else:
                    loose += 1
                    self.assertTrue(
                        is_right_move(web, places, move(web, places)))
        self.assertGreater(loose, 50)

    def test_where_more_than_one_way_is_free(self):
        bars = [Bar(0, 1, 2, 4, 1, 3), Bar(1, 0, 2, 4, 1, 3),
                Bar(0, 1, 2, 4, 0, 4), Bar(0, 5, 1, 4, 0, 4)]
        webs = [Web(6, {0: 0, 1: 3}, bars),
                Web(6, {1: 0, 2: 3}, bars),
                Web(6, {0: 7, 5: 0}, bars),
                Web(5, {0: 0, 1: 0, 2: 0}, [Bar(0, 1, 2, 4, 0, 4)] * 2)]
        for web in webs:
            for numbers in ([2] * 4, [0] * 4, [1, 3, 1, 0]):
                places = Places(numbers[:len(web.bars)], 1)
                if determinant_of(web, places) == 0:
                    moved = move(web, places)
                    self.assertTrue(is_right_move(web, places, moved))
                    self.assertEqual(move(web, places), moved)

    def test_by_name(self):
        web = beam((0, 4), (0, 4))
        places = Places([1, 1], 1)
        self.assertEqual(move(places=places, web=web), move(web, places))


class TestOrderOfRefusals(Refusing):

    def test_places_ahead_of_loose_and_not_loose(self):
        loose = astray()
        steady = fan([(2, 8), (2, 8)])
        for call, web in ((stand, loose), (move, steady),
                          (determinant, loose), (determinant, steady)):
            with self.subTest(call=call.__name__):
                self.assert_refused(BadCount("places", 1),
                                    call, web, Places([2], 1))
                self.assert_refused(BadCount("places", 3),
                                    call, web, Places([2, -1, 2], 1))
                self.assert_refused(BadPlace(1), call, web,
                                    Places([2, -1], 1))
                self.assert_refused(BadPlace(0), call, web,
                                    Places([31, 31], 3))

    def test_refusals_change_nothing(self):
        web, places = ring((0, 2), (0, 2)), Places([2, 0], 1)
        self.assertIsNotNone(refusal_of(stand, web, places))
        self.assertIsNotNone(refusal_of(move, ring(), Places([1, 1], 1)))
        self.assertEqual(web, ring((0, 2), (0, 2)))
        self.assertEqual(places, Places([2, 0], 1))


if __name__ == "__main__":
    unittest.main()
