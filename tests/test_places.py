"""Places, what is refused of them beside a web, and corners (points 4 and 7)."""

import itertools
import math
import unittest

from hookspans.errors import BadCount, BadPlace
from hookspans.places import Places, check_places, corners, is_within
from hookspans.stands import determinant, move, stand
from hookspans.webs import Bar, Web

from tests.making import Always, Refusing, fan, refusal_of


class TestPlaces(Refusing):

    LOWEST = [
        ([4, 6], 2, (2, 3), 1),
        ([4, 6], 8, (2, 3), 4),
        ([4, 6], 5, (4, 6), 5),
        ([4, 6, 9], 12, (4, 6, 9), 12),
        ([6, 9], 12, (2, 3), 4),
        ([3], 1, (3,), 1),
        ([0], 6, (0,), 1),
        ([0, 0, 0], 15, (0, 0, 0), 1),
        ([0, 4], 6, (0, 2), 3),
        ([], 6, (), 1),
        ([], 1, (), 1),
        ([-4, 6], 8, (-2, 3), 4),
        ([-4], 4, (-1,), 1),
        ([-3], 7, (-3,), 7),
        ([-5, -10], 15, (-1, -2), 3),
        ([10 ** 40, 3 * 10 ** 40], 10 ** 41, (1, 3), 10),
        ([2, 3, 5], 7, (2, 3, 5), 7),
    ]

    def test_lowest_terms(self):
        for numbers, parts, told, told_parts in self.LOWEST:
            with self.subTest(numbers=numbers, parts=parts):
                places = Places(numbers, parts)
                self.assertEqual(places.numbers, told)
                self.assertEqual(places.parts, told_parts)

    def test_lowest_terms_of_many(self):
        for numbers in itertools.product(range(-6, 7, 3), repeat=3):
            for parts in range(1, 13):
                places = Places(numbers, parts)
                common = math.gcd(parts, *numbers)
                self.assertEqual(places.parts, parts // common)
                self.assertEqual(
                    [number * common for number in places.numbers],
                    list(numbers))

    def test_numbers_is_a_tuple_from_a_list_and_from_a_tuple(self):
        for numbers in ([2, 3], (2, 3), [], ()):
            for parts in (1, 7):
                with self.subTest(numbers=numbers, parts=parts):
                    places = Places(numbers, parts)
                    self.assertIs(type(places.numbers), tuple)
                    self.assertEqual(places.numbers, tuple(numbers))

    def test_by_name(self):
        places = Places(parts=6, numbers=[2, 4])
        self.assertEqual((places.numbers, places.parts), ((1, 2), 3))

    def test_parts_at_the_edge(self):
        self.assertEqual(Places([5], 1).parts, 1)
        for parts in (0, -1, -6, -10 ** 30):
            for numbers in ([], [0], [6, 12], (1,)):
                with self.subTest(numbers=numbers, parts=parts):
                    self.assert_refused(BadCount("parts", parts),
                                        Places, numbers, parts)

    def test_handed_in_list_changed_behind(self):
        numbers = [4, 6]
        places = Places(numbers, 8)
        self.assertEqual(numbers, [4, 6])
        numbers[0] = 1
        numbers.append(5)
        self.assertEqual(places.numbers, (2, 3))
        self.assertEqual(places, Places((4, 6), 8))

    def test_refusal_changes_nothing(self):
        numbers = [4, 6]
        self.assertIsNotNone(refusal_of(Places, numbers, 0))
        self.assertEqual(numbers, [4, 6])

    def test_equal_by_both(self):
        alike = [((2, 4), 6), ([1, 2], 3), ((10, 20), 30)]
        for one, other in itertools.product(alike, alike):
            self.assertIs(Places(*one) == Places(*other), True)
            self.assertIs(Places(*one) != Places(*other), False)
        self.assertEqual(Places([0, 0], 4), Places([0, 0], 9))
        self.assertEqual(Places([], 4), Places((), 9))
        unlike = [((1, 2), 4), ((2, 1), 3), ((1, 2, 0), 3), ((1,), 3),
                  ((1, -2), 3), ((), 1)]
        for other in unlike:
            with self.subTest(other=other):
                self.assertIs(Places((1, 2), 3) == Places(*other), False)
                self.assertIs(Places((1, 2), 3) != Places(*other), True)

    def test_equal_to_nothing_of_another_class(self):
        class Below(Places):
            pass

        class Alike:
            numbers = (1, 2)
            parts = 3

        places = Places((1, 2), 3)
        others = [Below((1, 2), 3), Alike(), ((1, 2), 3), [(1, 2), 3], (1, 2),
                  None, 3, "1 2", Always(), fan([(0, 1)]),
                  Bar(0, 1, 2, 3, 1, 2)]
        for other in others:
            with self.subTest(other=type(other).__name__):
                self.assertIs(places == other, False)
                self.assertIs(places != other, True)
        self.assertIs(Below((1, 2), 3) == places, False)


class TestPlacesBesideAWeb(Refusing):

    def calls(self):
        """What takes places along with a web."""
        return (check_places, is_within, determinant, stand, move)

    def test_too_few_and_too_many(self):
        for many in range(1, 9):
            web = fan([(2, 8)] * many)
            for count in set(range(10)) - {many}:
                places = Places([5] * count, 1)
                for call in self.calls():
                    with self.subTest(many=many, count=count):
                        self.assert_refused(BadCount("places", count),
                                            call, web, places)

    def test_off_the_bar_by_one_of_many_parts(self):
        parts = 10 ** 20 + 39
        for many, at in ((1, 0), (3, 0), (3, 1), (3, 2), (8, 7)):
            web = fan([(2, 8)] * many)
            for number in (-1, 10 * parts + 1, -parts, 11 * parts):
                numbers = [5 * parts + 1] * many
                numbers[at] = number
                for call in self.calls():
                    with self.subTest(many=many, at=at, number=number):
                        self.assert_refused(BadPlace(at), call, web,
                                            Places(numbers, parts))

    def test_at_the_ends_of_the_bar(self):
        web = fan([(2, 8), (0, 10)])
        for numbers in itertools.product((0, 10), repeat=2):
            with self.subTest(numbers=numbers):
                self.assertIsNone(refusal_of(check_places, web,
                                             Places(numbers, 1)))
                self.assertIs(is_within(web, Places(numbers, 1)), False)

    def test_each_bar_by_its_own_length(self):
        web = Web(4, {0: 0, 1: 1},
                  [Bar(0, 1, 2, 3, 0, 3), Bar(0, 1, 3, 100, 0, 100)])
        self.assertIs(is_within(web, Places([3, 100], 1)), True)
        for call in self.calls():
            self.assert_refused(BadPlace(0), call, web, Places([4, 100], 1))
            self.assert_refused(BadPlace(1), call, web, Places([3, 101], 1))

    def test_first_bar_amiss_is_named(self):
        web = fan([(2, 8)] * 4)
        cases = [([5, -1, 11, -1], 1), ([5, 5, 99, -1], 2), ([11, 5, 5, -9], 0),
                 ([0, 10, 5, -1], 3), ([-5, -5, -5, -5], 0)]
        for numbers, wanted in cases:
            for call in self.calls():
                with self.subTest(numbers=numbers):
                    self.assert_refused(BadPlace(wanted), call, web,
                                        Places(numbers, 1))

    def test_count_ahead_of_place(self):
        web = fan([(2, 8)] * 2)
        for numbers in ([-1], [99], [-1, 5, 5], [5, 5, -1], [-1, -1, -1]):
            for call in self.calls():
                with self.subTest(numbers=numbers):
                    self.assert_refused(BadCount("places", len(numbers)),
                                        call, web, Places(numbers, 1))


class TestIsWithin(unittest.TestCase):

    def test_inside_and_at_either_end(self):
        web = fan([(2, 8)])
        for number in range(2, 9):
            with self.subTest(number=number):
                self.assertIs(is_within(web, Places([number], 1)), True)
        for number in (0, 1, 9, 10):
            with self.subTest(number=number):
                self.assertIs(is_within(web, Places([number], 1)), False)

    def test_just_beyond_by_one_of_many_parts(self):
        web = fan([(2, 8)])
        for parts in (2, 7, 1000003, 10 ** 30):
            cases = [(2 * parts - 1, False), (2 * parts, True),
                     (2 * parts + 1, True), (8 * parts - 1, True),
                     (8 * parts, True), (8 * parts + 1, False)]
            for number, wanted in cases:
                with self.subTest(number=number, parts=parts):
                    self.assertIs(is_within(web, Places([number], parts)),
                                  wanted)

    def test_spans_of_one_place(self):
        for place in (0, 5, 10):
            web = fan([(place, place)])
            for parts in (1, 6, 10 ** 12 + 1):
                for step in (-1, 0, 1):
                    number = place * parts + step
                    if not 0 <= number <= 10 * parts:
                        continue
                    with self.subTest(place=place, parts=parts, step=step):
                        self.assertIs(is_within(web, Places([number], parts)),
                                      step == 0)

    def test_each_hook_must_be_within(self):
        web = fan([(2, 8), (0, 3), (4, 4), (5, 10)])
        right = [16, 6, 16, 40]
        wrong = [33, 13, 17, 19]
        self.assertIs(is_within(web, Places(right, 4)), True)
        for at, number in enumerate(wrong):
            numbers = list(right)
            numbers[at] = number
            with self.subTest(at=at):
                self.assertIs(is_within(web, Places(numbers, 4)), False)

    def test_by_name(self):
        web = fan([(2, 8)])
        self.assertIs(is_within(places=Places([3], 1), web=web), True)
        self.assertIs(is_within(places=Places([1], 1), web=web), False)

    def test_told_alike_and_nothing_changed(self):
        web, places = fan([(2, 8)]), Places([5], 2)
        told = [is_within(web, places) for _ in range(3)]
        self.assertEqual(told, [True, True, True])
        self.assertEqual(web, fan([(2, 8)]))
        self.assertEqual(places, Places([5], 2))


class TestCorners(unittest.TestCase):

    def assert_corners(self, web, rows):
        told = corners(web)
        self.assertIs(type(told), list)
        self.assertEqual([corner.numbers for corner in told],
                         [tuple(row) for row in rows])
        for corner in told:
            self.assertIs(type(corner), Places)
            self.assertEqual(corner.parts, 1)
            self.assertIs(is_within(web, corner), True)

    def test_of_one_bar(self):
        self.assert_corners(fan([(2, 8)]), [[2], [8]])
        self.assert_corners(fan([(0, 10)]), [[0], [10]])
        self.assert_corners(fan([(5, 5)]), [[5]])
        self.assert_corners(fan([(0, 0)]), [[0]])

    def test_last_bar_is_turned_soonest(self):
        self.assert_corners(fan([(2, 8), (1, 3)]),
                            [[2, 1], [2, 3], [8, 1], [8, 3]])
        self.assert_corners(
            fan([(0, 1), (2, 3), (4, 5)]),
            [[0, 2, 4], [0, 2, 5], [0, 3, 4], [0, 3, 5],
             [1, 2, 4], [1, 2, 5], [1, 3, 4], [1, 3, 5]])

    def test_spans_of_one_place_have_that_alone(self):
        self.assert_corners(fan([(4, 4), (1, 3)]), [[4, 1], [4, 3]])
        self.assert_corners(fan([(1, 3), (4, 4)]), [[1, 4], [3, 4]])
        self.assert_corners(fan([(0, 1), (7, 7), (4, 5)]),
                            [[0, 7, 4], [0, 7, 5], [1, 7, 4], [1, 7, 5]])
        self.assert_corners(fan([(4, 4), (0, 0), (10, 10)]), [[4, 0, 10]])

    def test_of_one_to_eight_bars(self):
        wide = [(0, 9), (1, 10), (2, 7), (3, 4), (0, 10), (5, 6), (1, 8), (4, 9)]
        for many in range(1, 9):
            with self.subTest(many=many):
                rows = list(itertools.product(*wide[:many]))
                self.assertEqual(len(rows), 2 ** many)
                self.assert_corners(fan(wide[:many]), rows)

    def test_one_place_here_and_there(self):
        for single in itertools.product((False, True), repeat=5):
            spans = [(k, k) if one else (k, k + 2)
                     for k, one in enumerate(single)]
            ends = [(least,) if least == greatest else (least, greatest)
                    for least, greatest in spans]
            with self.subTest(spans=spans):
                self.assert_corners(fan(spans), itertools.product(*ends))

    def test_each_corner_once(self):
        for spans in ([(2, 8)] * 8, [(0, 0), (0, 1)] * 4, [(3, 3)] * 8):
            told = [corner.numbers for corner in corners(fan(spans))]
            self.assertEqual(len(told), len(set(told)))

    def test_not_in_lower_terms_than_they_are(self):
        self.assert_corners(fan([(4, 8), (2, 6)]),
                            [[4, 2], [4, 6], [8, 2], [8, 6]])

    def test_a_new_list_each_time(self):
        web = fan([(2, 8), (1, 3)])
        told = corners(web)
        self.assertIsNot(told, corners(web))
        told.clear()
        self.assert_corners(web, [[2, 1], [2, 3], [8, 1], [8, 3]])
        self.assertEqual(corners(web), corners(web))
        self.assertEqual(web, fan([(2, 8), (1, 3)]))

    def test_by_name(self):
        self.assertEqual(corners(web=fan([(2, 8)])),
                         [Places([2], 1), Places([8], 1)])


if __name__ == "__main__":
    unittest.main()
