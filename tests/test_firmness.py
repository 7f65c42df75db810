"""Papers that show that webs are firm or loose (point 8)."""

import itertools
import unittest
from fractions import Fraction

from hookspans.firmness import Firm, LooseAt, firm, is_firm, is_loose
from hookspans.places import Places, corners, is_within
from hookspans.reaches import Reach
from hookspans.stands import Stand, determinant, move
from hookspans.webs import Bar, Web

from tests.exact import (corner_numbers, determinant_of, determinant_of_row,
                         grid, is_right_move, many_webs, places_of)
from tests.making import (Always, Refusing, astray, beam, fan, refusal_of,
                          ring)


def one_bar(least, greatest):
    """A web whose determinant is its hook's place less 7."""
    return Web(3, {0: 3, 1: 4}, [Bar(2, 1, 0, 7, least, greatest)])


def corner_determinants(web):
    return tuple(determinant_of_row(web, row) for row in corner_numbers(web))


def is_firm_by(numbers, inside):
    """Point 8's words, of the corners' determinants."""
    if inside:
        return (any(numbers) and (all(number >= 0 for number in numbers)
                                  or all(number <= 0 for number in numbers)))
    return (all(number > 0 for number in numbers)
            or all(number < 0 for number in numbers))


def sits(web, places, inside):
    """Whether each hook is within its span, or strictly inside of it."""
    if len(places.numbers) != len(web.bars):
        return False
    for bar, x in zip(web.bars, places_of(places)):
        if inside and bar.least != bar.greatest:
            if not bar.least < x < bar.greatest:
                return False
        elif not bar.least <= x <= bar.greatest:
            return False
    return True


def all_kinds():
    return (many_webs(41, 60, (1, 2, 3), length=4)
            + many_webs(42, 60, (1, 2, 3), length=2, tame=False)
            + many_webs(43, 40, (2, 3, 4), wide=False)
            + many_webs(44, 8, (5, 6))
            + many_webs(45, 4, (5, 6), tame=False)
            + many_webs(46, 3, (8,), wide=False)
            + many_webs(47, 2, (8,), length=3, tame=False))


ALIKE = [
    # A web, and what is told closed and inside.
    (fan([(2, 8)]), Firm, Firm),
    (one_bar(0, 6), Firm, Firm),
    (one_bar(0, 7), LooseAt, Firm),
    (one_bar(7, 7), LooseAt, LooseAt),
    (one_bar(6, 6), Firm, Firm),
    (ring((0, 1), (0, 1)), Firm, Firm),
    (ring((0, 2), (0, 2)), LooseAt, Firm),
    (ring((2, 2), (0, 2)), LooseAt, Firm),
    (ring((2, 2), (0, 0)), LooseAt, LooseAt),
    (ring((0, 2), (0, 0)), LooseAt, Firm),
    (beam((0, 1), (3, 4)), Firm, Firm),
    (beam((3, 4), (0, 1)), Firm, Firm),
    (beam((0, 2), (2, 4)), LooseAt, Firm),
    (beam((2, 4), (0, 2)), LooseAt, Firm),
    (beam((0, 3), (2, 4)), LooseAt, LooseAt),
    (beam((0, 4), (0, 4)), LooseAt, LooseAt),
    (beam((2, 2), (2, 2)), LooseAt, LooseAt),
    (beam((2, 2), (1, 3)), LooseAt, LooseAt),
    (beam((2, 2), (2, 3)), LooseAt, Firm),
    (beam((2, 2), (3, 3)), Firm, Firm),
    (beam((1, 1), (1, 1), 4, 6), Firm, Firm),
    (beam((2, 2), (3, 3), 4, 6), LooseAt, LooseAt),
    (beam((0, 1), (0, 1), 1, 1), LooseAt, LooseAt),
    (beam((0, 0), (0, 1), 1, 1), LooseAt, Firm),
    (beam((1, 1), (0, 1), 1, 1), LooseAt, Firm),
    (beam((0, 0), (1, 1), 1, 1), Firm, Firm),
    (beam((1, 1), (0, 0), 1, 1), Firm, Firm),
    (astray(), LooseAt, LooseAt),
    (astray((2, 2), (1, 1)), LooseAt, LooseAt),
    (astray((0, 4), (0, 0)), LooseAt, LooseAt),
]


class TestPapers(unittest.TestCase):

    def assert_unlike(self, one, other):
        self.assertIs(one == other, False)
        self.assertIs(one != other, True)

    def test_fields(self):
        for numbers in ([], (), [1], (3, -4), [0] * 300):
            told = Firm(numbers)
            self.assertIs(type(told.numbers), tuple)
            self.assertEqual(told.numbers, tuple(numbers))
            loose = LooseAt(Places([1], 2), numbers)
            self.assertIs(type(loose.moved), tuple)
            self.assertEqual(loose.moved, tuple(numbers))
            self.assertEqual(loose.places, Places([1], 2))

    def test_by_name(self):
        self.assertEqual(Firm(numbers=[1, 2]), Firm((1, 2)))
        self.assertEqual(LooseAt(moved=[1, 2], places=Places([1], 2)),
                         LooseAt(Places([1], 2), (1, 2)))

    def test_lists_changed_behind(self):
        numbers, moved = [1, 2], [3, 4]
        told, loose = Firm(numbers), LooseAt(Places([1], 1), moved)
        for row in (numbers, moved):
            row[0] = 9
            row.append(1)
        self.assertEqual(told.numbers, (1, 2))
        self.assertEqual(loose.moved, (3, 4))

    def test_equal_by_class_and_fields(self):
        places = Places([1], 2)
        self.assertIs(Firm([1, 2]) == Firm((1, 2)), True)
        self.assertIs(Firm([1, 2]) != Firm((1, 2)), False)
        self.assertIs(LooseAt(places, [1]) == LooseAt(Places([2], 4), (1,)),
                      True)
        self.assertIs(LooseAt(places, [1]) != LooseAt(Places([2], 4), (1,)),
                      False)
        for other in (Firm([2, 1]), Firm([1]), Firm([1, 2, 3]), Firm([])):
            self.assert_unlike(Firm([1, 2]), other)
        for other in (LooseAt(places, [1, 0]), LooseAt(places, [-1]),
                      LooseAt(Places([1], 3), [1]), LooseAt(places, [])):
            self.assert_unlike(LooseAt(places, [1]), other)

    def test_equal_to_nothing_of_another_class(self):
        class BelowFirm(Firm):
            pass

        class BelowLoose(LooseAt):
            pass

        class Alike:
            numbers = (1,)
            moved = (1,)
            places = Places([1], 2)

        told, loose = Firm([1]), LooseAt(Places([1], 2), [1])
        others = [BelowFirm([1]), BelowLoose(Places([1], 2), [1]), Alike(),
                  (1,), ((1,),), None, 1, "1", Always(), Places([1], 1),
                  Stand([1], 1), (Places([1], 2), (1,))]
        for other in others + [loose]:
            self.assert_unlike(told, other)
        for other in others + [told]:
            self.assert_unlike(loose, other)
        self.assert_unlike(others[0], told)
        self.assert_unlike(others[1], loose)


class TestFirm(unittest.TestCase):

    def assert_told(self, web, inside, wanted):
        """The right class, and a paper that shows it by itself."""
        told = firm(web, inside=inside)
        self.assertIs(type(told), wanted)
        if wanted is Firm:
            self.assertIs(type(told.numbers), tuple)
            self.assertEqual(told.numbers, corner_determinants(web))
            self.assertIs(is_firm(web, told, inside=inside), True)
            self.assertIs(is_loose(web, told, inside=inside), False)
            return
        self.assertIs(type(told.places), Places)
        self.assertTrue(sits(web, told.places, inside))
        self.assertEqual(determinant_of(web, told.places), 0)
        self.assertTrue(is_right_move(web, told.places, told.moved))
        self.assertIs(is_loose(web, told, inside=inside), True)
        self.assertIs(is_firm(web, told, inside=inside), False)

    def test_by_hand(self):
        for at, (web, closed, inside) in enumerate(ALIKE):
            with self.subTest(at=at):
                self.assert_told(web, False, closed)
                self.assert_told(web, True, inside)

    def test_numbers_by_hand(self):
        self.assertEqual(firm(ring()).numbers, (4, 4, 2, 3))
        self.assertEqual(firm(fan([(2, 8)])).numbers, (10, 10))
        self.assertEqual(firm(one_bar(6, 6)).numbers, (-1,))
        self.assertEqual(firm(beam((0, 1), (3, 4))).numbers, (12, 16, 8, 12))
        self.assertEqual(firm(beam((3, 4), (0, 1))).numbers,
                         (-12, -8, -16, -12))
        self.assertEqual(firm(ring((0, 2), (0, 2)), inside=True).numbers,
                         (4, 4, 0, 4))
        self.assertEqual(firm(beam((2, 4), (0, 2)), inside=True).numbers,
                         (-8, 0, -16, -8))

    def test_many(self):
        seen = set()
        for web in all_kinds():
            numbers = corner_determinants(web)
            for inside in (False, True):
                wanted = Firm if is_firm_by(numbers, inside) else LooseAt
                self.assert_told(web, inside, wanted)
                seen.add((wanted, inside, max(numbers) > 0, min(numbers) < 0))
        for inside in (False, True):
            self.assertIn((Firm, inside, True, False), seen)
            self.assertIn((Firm, inside, False, True), seen)
            self.assertIn((LooseAt, inside, True, True), seen)
            self.assertIn((LooseAt, inside, False, False), seen)
        self.assertIn((LooseAt, False, False, True), seen)
        self.assertIn((LooseAt, False, True, False), seen)

    def test_firm_is_loose_at_no_hooks(self):
        for web in many_webs(48, 60, (1, 2, 3), length=5):
            for inside in (False, True):
                if type(firm(web, inside=inside)) is Firm:
                    for row in grid(web, 4, inside):
                        self.assertNotEqual(determinant_of(web, row), 0)

    def test_loose_far_in_a_corner(self):
        # n y - m x is below nought close by one corner alone.
        long = 10 ** 6
        for least in (0, 1, long - 1):
            web = beam((least, least + 1), (0, least + 1), long, long)
            self.assert_told(web, False, LooseAt)
            self.assert_told(web, True, LooseAt)
        web = beam((0, 1), (0, long - 1), long, long)
        self.assert_told(web, True, LooseAt)
        web = beam((1, long - 1), (0, 2), long, long)
        self.assert_told(web, True, LooseAt)

    def test_eight_bars(self):
        web = fan([(2, 8)] * 8)
        self.assertEqual(firm(web).numbers, (10 ** 8,) * 256)
        self.assertEqual(firm(fan([(5, 5)] * 8)).numbers, (10 ** 8,))
        self.assert_told(web, True, Firm)

    def test_closed_is_what_is_asked_for_without_a_word(self):
        web = ring((0, 2), (0, 2))
        self.assertIs(type(firm(web)), LooseAt)
        paper = Firm((4, 4, 0, 4))
        self.assertIs(is_firm(web, paper), False)
        self.assertIs(is_firm(web, paper, inside=False), False)
        self.assertIs(is_firm(web, paper, inside=True), True)
        self.assertIs(is_loose(web, firm(web)), True)
        self.assertIs(is_loose(web, firm(web), inside=True), False)

    def test_inside_by_its_name_alone(self):
        web = fan([(2, 8)])
        for call, row in ((firm, (web, True)),
                          (is_firm, (web, Firm([10, 10]), True)),
                          (is_loose, (web, Firm([10, 10]), True))):
            with self.assertRaises(TypeError):
                call(*row)

    def test_by_name(self):
        self.assertEqual(firm(inside=True, web=ring()), firm(ring()))
        self.assertIs(is_firm(paper=firm(ring()), inside=True, web=ring()),
                      True)
        loose = firm(astray())
        self.assertIs(is_loose(paper=loose, web=astray()), True)

    def test_told_alike_and_nothing_changed(self):
        for at, (web, _, _) in enumerate(ALIKE):
            held, bars = web.held(), web.bars
            other = Web(web.rods, dict(reversed(list(held.items()))), bars)
            for inside in (False, True):
                told = firm(web, inside=inside)
                self.assertEqual(firm(web, inside=inside), told)
                self.assertEqual(firm(other, inside=inside), told)
            self.assertEqual((web.held(), web.bars), (held, bars))


class TestIsFirm(unittest.TestCase):

    def test_one_number_otherwise(self):
        for web in (ring(), fan([(2, 8), (1, 3)]), beam((3, 4), (0, 1)),
                    one_bar(6, 6)):
            numbers = firm(web).numbers
            for inside in (False, True):
                self.assertIs(is_firm(web, Firm(numbers), inside=inside), True)
                self.assertIs(is_firm(web, Firm(list(numbers)), inside=inside),
                              True)
                for at, step in itertools.product(range(len(numbers)),
                                                  (-1, 1, 10 ** 9)):
                    other = list(numbers)
                    other[at] += step
                    self.assertIs(is_firm(web, Firm(other), inside=inside),
                                  False)
                self.assertIs(
                    is_firm(web, Firm([-number for number in numbers]),
                            inside=inside), False)

    def test_too_few_too_many_and_in_another_order(self):
        web = ring()
        for numbers in ((), (4,), (4, 4, 2), (4, 4, 2, 3, 3), (4, 4, 3, 2),
                        (4, 4, 2, 3) * 2, (2, 3, 4, 4)):
            with self.subTest(numbers=numbers):
                self.assertIs(is_firm(web, Firm(numbers)), False)
                self.assertIs(is_firm(web, Firm(numbers), inside=True), False)

    def test_right_numbers_of_a_loose_web(self):
        for web in all_kinds():
            numbers = corner_determinants(web)
            for inside in (False, True):
                self.assertIs(is_firm(web, Firm(numbers), inside=inside),
                              is_firm_by(numbers, inside))

    def test_another_class(self):
        class Below(Firm):
            pass

        class Alike:
            numbers = (4, 4, 2, 3)

        for paper in (Below((4, 4, 2, 3)), Alike(), (4, 4, 2, 3), None, 4, "4",
                      Always(), Stand((4, 4, 2, 3), 1),
                      LooseAt(Places([0, 0], 1), (4, 4, 2, 3)),
                      Reach((0, 1), (1, 1), Places([0, 0], 1),
                            Places([0, 1], 1))):
            with self.subTest(paper=type(paper).__name__):
                self.assertIs(is_firm(ring(), paper), False)
                self.assertIs(is_firm(ring(), paper, inside=True), False)


class TestIsLoose(unittest.TestCase):

    def assert_shows(self, web, numbers, parts, moved, closed, inside):
        paper = LooseAt(Places(numbers, parts), moved)
        with self.subTest(numbers=numbers, parts=parts, moved=moved):
            self.assertIs(is_loose(web, paper), closed)
            self.assertIs(is_loose(web, paper, inside=False), closed)
            self.assertIs(is_loose(web, paper, inside=True), inside)

    def test_places_within_and_inside(self):
        web = beam((1, 3), (1, 4))
        self.assert_shows(web, [2, 2], 1, (0, 0, -1, 1), True, True)
        self.assert_shows(web, [2, 2], 1, [0, 0, 1, -1], True, True)
        self.assert_shows(web, [3, 3], 2, (0, 0, -3, 5), True, True)
        self.assert_shows(web, [5, 5], 2, (0, 0, -5, 3), True, True)
        self.assert_shows(web, [1, 1], 1, (0, 0, -1, 3), True, False)
        self.assert_shows(web, [3, 3], 1, (0, 0, 3, -1), True, False)
        # Beyond a span, on the bar.
        self.assert_shows(web, [7, 7], 2, (0, 0, -7, 1), False, False)
        self.assert_shows(web, [1, 1], 2, (0, 0, -1, 7), False, False)
        self.assert_shows(web, [0, 0], 1, (0, 0, 0, 1), False, False)
        self.assert_shows(web, [4, 4], 1, (0, 0, 1, 0), False, False)

    def test_just_inside_an_end(self):
        web = beam((1, 3), (1, 3))
        parts = 10 ** 9
        for number, closed, inside in (
                (parts + 1, True, True), (3 * parts - 1, True, True),
                (parts - 1, False, False), (3 * parts + 1, False, False)):
            moved = (0, 0, -number, 4 * parts - number)
            self.assert_shows(web, [number] * 2, parts, moved, closed, inside)

    def test_span_of_one_place(self):
        web = beam((2, 2), (1, 3))
        self.assert_shows(web, [2, 2], 1, (0, 0, 1, -1), True, True)
        self.assert_shows(web, [3, 3], 2, (0, 0, -3, 5), False, False)
        self.assert_shows(web, [5, 5], 2, (0, 0, -5, 3), False, False)
        self.assert_shows(beam((2, 2), (2, 2)), [2, 2], 1, (0, 0, 1, -1),
                          True, True)
        self.assert_shows(beam((2, 2), (2, 3)), [2, 2], 1, (0, 0, 1, -1),
                          True, False)

    def test_one_thing_of_a_move_otherwise(self):
        web = beam((1, 3), (1, 4))
        for moved in ((0, 0, -2, 2), (0, 0, 0, 0), (0, 0, -1, 2), (0, 0, 1, 1),
                      (1, 0, -1, 1), (0, 1, -1, 1), (0, 0, -1), (0, 0, -1, 1, 0),
                      (0, 0, -1, 1, 1), (), (0,), (0, 0, 3, -3), (-1, 1),
                      (0, 0), (0, 0, 0, 1), (1, 1, 1, 1), (4, 4, 3, 5)):
            self.assert_shows(web, [2, 2], 1, moved, False, False)

    def test_held_rods_must_stay_even_where_bars_are_straight(self):
        # All rods moved alike keep each bar straight, at any hooks.
        for web in (fan([(2, 8)]), ring(), beam((2, 3), (2, 3))):
            numbers = [2] * len(web.bars)
            moved = (1,) * web.rods
            self.assert_shows(web, numbers, 1, moved, False, False)

    def test_places_that_the_hooks_cannot_have(self):
        web = beam((0, 4), (0, 4))
        moved = (0, 0, -1, 1)
        for numbers in ([], [2], [2, 2, 2], [2, 2, 99], [-2, 2], [2, 5],
                        [9, 9], [-1, -1]):
            self.assert_shows(web, numbers, 1, moved, False, False)
        for number, moved in ((-1, (0, 0, -1, -5)), (5, (0, 0, 5, 1)),
                              (-1, (0, 0, 1, 5))):
            self.assert_shows(web, [number] * 2, 1, moved, False, False)

    def test_too_many_places_though_the_first_ones_are_right(self):
        web = beam((0, 4), (0, 4))
        self.assert_shows(web, [2, 2], 1, (0, 0, -1, 1), True, True)
        self.assert_shows(web, [2, 2, 2], 1, (0, 0, -1, 1), False, False)
        self.assert_shows(one_bar(0, 7), [7, 7], 1, (0, 0, 1), False, False)

    def test_the_very_paper_with_one_thing_otherwise(self):
        for web in many_webs(49, 80, (1, 2, 3), length=4, tame=False):
            for inside in (False, True):
                told = firm(web, inside=inside)
                if type(told) is Firm:
                    continue
                places, moved = told.places, told.moved
                self.assertIs(is_loose(web, told, inside=inside), True)
                self.assertIs(
                    is_loose(web, LooseAt(places, [-step for step in moved]),
                             inside=inside), True)
                self.assertIs(
                    is_loose(web, LooseAt(places, [2 * n for n in moved]),
                             inside=inside), False)
                for at in range(len(moved)):
                    other = list(moved)
                    other[at] += 1
                    self.assertIs(
                        is_loose(web, LooseAt(places, other), inside=inside),
                        is_right_move(web, places, tuple(other)))

    def test_of_any_places_and_moves(self):
        told = set()
        for web in many_webs(50, 25, (2,), length=3, tame=False):
            if web.rods > 4:
                continue
            for numbers in itertools.product(range(-1, 8), repeat=2):
                places = Places(numbers, 2)
                for moved in itertools.product((-1, 0, 2), repeat=web.rods):
                    for inside in (False, True):
                        wanted = (sits(web, places, inside)
                                  and is_right_move(web, places, moved))
                        paper = LooseAt(places, moved)
                        self.assertIs(is_loose(web, paper, inside=inside),
                                      wanted)
                        told.add((wanted, inside))
        self.assertEqual(len(told), 4)

    def test_another_class(self):
        web = beam((0, 4), (0, 4))
        right = LooseAt(Places([2, 2], 1), (0, 0, -1, 1))

        class Below(LooseAt):
            pass

        class Alike:
            places = right.places
            moved = right.moved

        self.assertIs(is_loose(web, right), True)
        for paper in (Below(right.places, right.moved), Alike(), None, 4, "4",
                      (right.places, right.moved), Always(), right.places,
                      Firm(right.moved), Stand(right.moved, 1)):
            with self.subTest(paper=type(paper).__name__):
                self.assertIs(is_loose(web, paper), False)
                self.assertIs(is_loose(web, paper, inside=True), False)

    def test_of_another_web(self):
        paper = LooseAt(Places([2, 2], 1), (0, 0, -1, 1))
        for web in (ring(), fan([(2, 8)]), fan([(2, 8)] * 2), fan([(0, 9)] * 3),
                    beam((0, 4), (0, 6), other=6)):
            self.assertIs(is_loose(web, paper), False)

    def test_a_move_alone_shows_it(self):
        web = beam((0, 4), (0, 4))
        places = Places([1, 1], 1)
        self.assertIs(is_loose(web, LooseAt(places, move(web, places))), True)
        self.assertEqual(determinant(web, places), 0)


class TestNothingIsRefused(Refusing):

    def test_papers_of_any_form(self):
        rows = [[], [1], [0, 0, -1, 1], [1] * 50, (10 ** 40,)]
        sites = [Places(numbers, parts) for numbers in ([], [2], [2, 2], [-9],
                                                        [5] * 20)
                 for parts in (1, 3)]
        papers = [Firm(row) for row in rows] + [
            LooseAt(places, row) for places in sites for row in rows]
        for web in (ring(), astray(), beam((1, 2), (3, 4)), fan([(1, 1)] * 8)):
            for paper, inside in itertools.product(papers, (False, True)):
                self.assertIsNone(refusal_of(is_firm, web, paper,
                                             inside=inside))
                self.assertIsNone(refusal_of(is_loose, web, paper,
                                             inside=inside))

    def test_is_within_agrees(self):
        for web in all_kinds():
            told = firm(web)
            if type(told) is LooseAt:
                self.assertIs(is_within(web, told.places), True)
            else:
                self.assertEqual(len(told.numbers), len(corners(web)))

    def test_determinant_of_rational_places(self):
        told = firm(beam((1, 2), (1, 2), 4, 7))
        x, y = places_of(told.places)
        self.assertEqual(4 * y - 7 * x, Fraction(0))


if __name__ == "__main__":
    unittest.main()
