"""What seen heights tell of the hooks (point 14)."""

import itertools
import random
import unittest
from fractions import Fraction

from hookspans.errors import BadCount, NotHeld
from hookspans.leads import led
from hookspans.places import Places
from hookspans.stands import stand
from hookspans.webs import Bar, Web

from tests.exact import determinant_of, grid, many_webs, places_of, told
from tests.making import Refusing, fan, ring


def wanted_of(bar, heights):
    """What one bar tells, by the words of point 14."""
    at_a, at_b, at_c = [Fraction(heights[rod]) for rod in (bar.a, bar.b, bar.c)]
    if at_a == at_b:
        return "free" if at_c == at_a else "none"
    place = bar.length * (at_c - at_a) / (at_b - at_a)
    return told(place) if 0 <= place <= bar.length else "none"


def one_bar(at_a=0, at_b=10, length=4, span=(1, 2)):
    """A web of one bar, from rod 0 to rod 1, its hook on rod 2."""
    return Web(3, {0: at_a, 1: at_b}, [Bar(0, 1, 2, length, *span)])


def led_once(at_a, at_b, at_c, length=4, span=(1, 2), parts=1):
    """What the bar of one_bar tells of heights in parts."""
    row = led(one_bar(at_a, at_b, length, span),
              [at_a * parts, at_b * parts, at_c], parts=parts)
    assert type(row) is list and len(row) == 1
    return row[0]


class TestStandsOwnHeights(Refusing):

    def assert_tells_places(self, web, places):
        """A stand's heights tell each hook's place, but where all is level."""
        own = stand(web, places)
        for times in (1, 3):
            seen = led(web, [top * times for top in own.tops],
                       parts=own.bottom * times)
            self.assertEqual(len(seen), len(web.bars))
            for bar, place, one in zip(web.bars, places_of(places), seen):
                level = own.tops[bar.a] == own.tops[bar.b]
                self.assertEqual(one, "free" if level else told(place))

    def test_of_many_webs(self):
        webs = (many_webs(141, 40, (1, 2, 3), length=4)
                + many_webs(142, 40, (1, 2, 3), length=3, tame=False)
                + many_webs(143, 3, (5, 8), wide=False))
        seen = 0
        for web in webs:
            for row in grid(web, 2)[:30]:
                if determinant_of(web, row):
                    seen += 1
                    self.assert_tells_places(web, Places(row.numbers, row.parts))
        self.assertGreater(seen, 300)

    def test_in_more_parts(self):
        web = ring((1, 2), (0, 1))
        places = Places([3, 1], 2)
        own = stand(web, places)
        self.assertGreater(own.bottom, 1)
        self.assertEqual(led(web, own.tops, parts=own.bottom), [(3, 2), (1, 2)])
        self.assertEqual(led(web, [top * 10 for top in own.tops],
                             parts=own.bottom * 10), [(3, 2), (1, 2)])

    def test_outside_of_the_spans(self):
        web = fan([(2, 3), (2, 3), (2, 3)])
        own = stand(web, Places([0, 7, 10], 1))
        self.assertEqual(led(web, own.tops, parts=own.bottom),
                         [(0, 1), (7, 1), (10, 1)])


class TestOneBar(unittest.TestCase):

    def test_level(self):
        for height in (0, 5, -7):
            for span in ((0, 4), (1, 2), (3, 3)):
                for parts in (1, 2):
                    self.assertEqual(
                        led_once(height, height, height * parts, span=span,
                                 parts=parts), "free")

    def test_level_ends_alone(self):
        for height in (0, 5, -7):
            for at_c in (height + 1, height - 1, height + 100):
                self.assertEqual(led_once(height, height, at_c), "none")
        self.assertEqual(led_once(1, 1, 3, parts=2), "none")

    def test_level_with_one_end_alone(self):
        self.assertEqual(led_once(0, 10, 0), (0, 1))
        self.assertEqual(led_once(0, 10, 10), (4, 1))

    def test_places_at_the_ends(self):
        for at_a, at_b in ((0, 8), (8, 0), (-5, 3), (3, -5), (-9, -1)):
            with self.subTest(at_a=at_a, at_b=at_b):
                self.assertEqual(led_once(at_a, at_b, at_a), (0, 1))
                self.assertEqual(led_once(at_a, at_b, at_b), (4, 1))

    def test_beyond_the_ends(self):
        for at_a, at_b in ((0, 8), (8, 0), (-5, 3), (3, -5), (-9, -1)):
            low, high = min(at_a, at_b), max(at_a, at_b)
            for at_c in (low - 1, high + 1, low - 100, high + 100):
                with self.subTest(at_a=at_a, at_b=at_b, at_c=at_c):
                    self.assertEqual(led_once(at_a, at_b, at_c), "none")

    def test_just_beyond_in_parts(self):
        for at_c in (-1, 8001):
            self.assertEqual(led_once(0, 8, at_c, parts=1000), "none")
        self.assertEqual(led_once(0, 8, 1, parts=1000), (1, 2000))
        self.assertEqual(led_once(0, 8, 7999, parts=1000), (7999, 2000))

    def test_within_the_bar_and_outside_of_the_span(self):
        for span in ((0, 0), (4, 4), (0, 1), (3, 4), (2, 2)):
            self.assertEqual(led_once(0, 8, 4, span=span), (2, 1))
            self.assertEqual(led_once(0, 8, 3, span=span), (3, 2))
            self.assertEqual(led_once(0, 8, 0, span=span), (0, 1))
            self.assertEqual(led_once(0, 8, 8, span=span), (4, 1))

    def test_counted_from_the_end_a(self):
        self.assertEqual(led_once(0, 8, 2), (1, 1))
        self.assertEqual(led_once(8, 0, 2), (3, 1))
        self.assertEqual(led_once(8, 0, 6), (1, 1))

    def test_lowest_terms(self):
        self.assertEqual(led_once(0, 12, 2, length=9), (3, 2))
        self.assertEqual(led_once(12, 0, 2, length=9), (15, 2))
        self.assertEqual(led_once(0, -12, -3, length=6), (3, 2))
        self.assertEqual(led_once(0, 9, 6, length=6), (4, 1))

    def test_all_heights_against_the_words(self):
        for at_a, at_b in itertools.product(range(-3, 4), repeat=2):
            web = one_bar(at_a, at_b, length=6)
            for parts in (1, 2, 3):
                for at_c in range(-12, 13):
                    row = [at_a * parts, at_b * parts, at_c]
                    self.assertEqual(led(web, row, parts=parts),
                                     [wanted_of(web.bars[0], row)])


class TestManyBars(unittest.TestCase):

    def test_each_bar_in_its_order(self):
        bars = [Bar(0, 1, 2, 10, 0, 1), Bar(1, 0, 3, 10, 0, 1),
                Bar(2, 3, 4, 6, 0, 1), Bar(0, 4, 5, 5, 0, 1)]
        web = Web(6, {0: 0, 1: 10}, bars)
        self.assertEqual(led(web, [0, 10, 3, 3, 3, 1]),
                         [(3, 1), (7, 1), "free", (5, 3)])
        self.assertEqual(led(web, [0, 10, 3, 3, 4, -1]),
                         [(3, 1), (7, 1), "none", "none"])

    def test_against_the_words(self):
        chance = random.Random(14)
        for web in (many_webs(144, 150, (1, 2, 3, 5, 8), tame=False)
                    + many_webs(145, 150, (1, 2, 4))):
            parts = chance.choice((1, 2, 5))
            row = [chance.randrange(-4, 5) for _ in range(web.rods)]
            for rod, height in web.held().items():
                row[rod] = height * parts
            self.assertEqual(led(web, row, parts=parts),
                             [wanted_of(bar, row) for bar in web.bars])

    def test_a_loose_web(self):
        web = Web(4, {0: 0, 1: 12}, [Bar(2, 3, 0, 4, 2, 2), Bar(2, 3, 1, 4, 2, 2)])
        self.assertEqual(led(web, [0, 12, -4, 16]), [(4, 5), (16, 5)])

    def test_kinds(self):
        row = led(fan([(0, 1), (2, 3), (4, 5)]), [0, 10, 5, 11, 10])
        self.assertEqual(row, [(5, 1), "none", (10, 1)])
        self.assertIs(type(row), list)
        self.assertEqual([type(one) for one in row], [tuple, str, tuple])


class TestHandedIn(unittest.TestCase):

    def test_list_or_tuple(self):
        web = fan([(2, 8), (3, 4)])
        self.assertEqual(led(web, [0, 10, 5, 7]), [(5, 1), (7, 1)])
        self.assertEqual(led(web, (0, 10, 5, 7)), [(5, 1), (7, 1)])

    def test_nothing_handed_in_is_changed(self):
        web = fan([(2, 8), (3, 4)])
        heights = [0, 20, 5, 7]
        led(web, heights, parts=2)
        self.assertEqual(heights, [0, 20, 5, 7])
        self.assertEqual(web, fan([(2, 8), (3, 4)]))

    def test_told_alike_whatever_is_done_to_the_told(self):
        web = fan([(2, 8), (3, 4)])
        first = led(web, [0, 10, 5, 7])
        first.clear()
        self.assertEqual(led(web, [0, 10, 5, 7]), [(5, 1), (7, 1)])

    def test_by_names(self):
        web = fan([(2, 8)])
        self.assertEqual(led(heights=[0, 10, 5], web=web), [(5, 1)])
        self.assertEqual(led(parts=2, heights=[0, 20, 5], web=web), [(5, 2)])

    def test_parts_by_its_name_alone(self):
        with self.assertRaises(TypeError):
            led(fan([(2, 8)]), [0, 20, 5], 2)

    def test_one_part_where_none_is_told(self):
        web = fan([(2, 8)])
        self.assertEqual(led(web, [0, 10, 5]), led(web, [0, 10, 5], parts=1))


class TestRefused(Refusing):

    WEB = fan([(2, 8), (3, 4)])
    RIGHT = [0, 10, 5, 7]

    def test_parts(self):
        for parts in (0, -1, -10 ** 9):
            self.assert_refused(BadCount("parts", parts), led, self.WEB,
                                self.RIGHT, parts=parts)

    def test_parts_without_an_end(self):
        many = 10 ** 30
        row = [height * many for height in self.RIGHT]
        self.assertEqual(led(self.WEB, row, parts=many), [(5, 1), (7, 1)])

    def test_heights(self):
        for many in (0, 1, 3, 5, 9):
            row = (self.RIGHT + [1] * 5)[:many]
            self.assert_refused(BadCount("heights", many), led, self.WEB, row)
            self.assert_refused(BadCount("heights", many), led, self.WEB,
                                tuple(row), parts=1)

    def test_as_many_heights_as_rods_not_as_bars(self):
        web = Web(5, {0: 0, 1: 10, 2: 3}, [Bar(0, 1, 3, 10, 2, 8),
                                           Bar(0, 1, 4, 10, 2, 8)])
        self.assertEqual(led(web, [0, 10, 3, 5, 7]), [(5, 1), (7, 1)])
        self.assert_refused(BadCount("heights", 2), led, web, [0, 10])

    def test_held_elsewhere(self):
        for rod in (0, 1):
            for off in (-1, 1, 100):
                row = list(self.RIGHT)
                row[rod] += off
                self.assert_refused(NotHeld(rod), led, self.WEB, row)

    def test_held_in_parts(self):
        self.assert_refused(NotHeld(1), led, self.WEB, self.RIGHT, parts=2)
        self.assert_refused(NotHeld(1), led, self.WEB, [0, 21, 5, 7], parts=2)
        self.assert_refused(NotHeld(1), led, self.WEB, [0, 20, 5, 7])
        self.assertIsNotNone(led(self.WEB, [0, 20, 5, 7], parts=2))

    def test_first_held_rod_whatever_the_order_of_the_keys(self):
        heights = {1: 4, 3: -5, 4: 7}
        bars = [Bar(1, 3, 0, 4, 0, 4), Bar(1, 4, 2, 4, 0, 4)]
        for keys in itertools.permutations(heights):
            web = Web(5, {rod: heights[rod] for rod in keys}, bars)
            with self.subTest(keys=keys):
                self.assertEqual(led(web, [4, 4, 4, -5, 7]), [(0, 1), (0, 1)])
                for amiss in ((1,), (3,), (4,), (1, 3), (1, 4), (3, 4), (1, 3, 4)):
                    row = [4, 4, 4, -5, 7]
                    for rod in amiss:
                        row[rod] += 1
                    self.assert_refused(NotHeld(amiss[0]), led, web, row)

    def test_two_at_once(self):
        self.assert_refused(BadCount("parts", 0), led, self.WEB, [1], parts=0)
        self.assert_refused(BadCount("parts", 0), led, self.WEB,
                            [1, 1, 1, 1], parts=0)
        self.assert_refused(BadCount("parts", -2), led, self.WEB, [], parts=-2)
        self.assert_refused(BadCount("heights", 3), led, self.WEB, [1, 1, 1])
        self.assert_refused(BadCount("heights", 5), led, self.WEB,
                            [1, 1, 1, 1, 1])

    def test_refused_alike_again(self):
        row = [1, 1, 1, 1]
        for _ in range(2):
            self.assert_refused(NotHeld(0), led, self.WEB, row)
        self.assertEqual(row, [1, 1, 1, 1])


if __name__ == "__main__":
    unittest.main()
