"""Reaches of sums, goals that are met, and the order of rods (points 9, 10, 13)."""

import itertools
import random
import unittest
from fractions import Fraction

from hookspans.errors import BadCount, Beyond, Loose
from hookspans.firmness import Firm, firm
from hookspans.places import Places, corners, is_within
from hookspans.reaches import Reach, is_reach, met, order, reach
from hookspans.stands import Stand, stand
from hookspans.webs import Bar, Web

from tests.exact import (Row, corner_numbers, grid, heights_of, is_firm_web,
                         many_webs, sum_of, told)
from tests.making import (Always, Refusing, astray, beam, fan, refusal_of,
                          ring)


def firm_webs():
    """Firm webs of each size, some of them with a determinant below nought."""
    found = (many_webs(61, 70, (1, 2, 3), length=5)
             + many_webs(62, 120, (1, 2), length=4, tame=False)
             + many_webs(63, 40, (4,), wide=False)
             + many_webs(64, 6, (5, 6), wide=False)
             + many_webs(65, 1, (8,), wide=False))
    return [web for web in found if is_firm_web(web)]


def weights_for(web, seed=7):
    """Several rows of weights: single rods, differences, any."""
    chance = random.Random(seed)
    rows = [[0] * web.rods]
    for _ in range(2):
        row = [0] * web.rods
        row[chance.randrange(web.rods)] = chance.choice((-1, 1, 3))
        rows.append(row)
        row = [0] * web.rods
        row[chance.randrange(web.rods)] += 1
        row[chance.randrange(web.rods)] -= 1
        rows.append(row)
    rows.append([chance.randrange(-5, 6) for _ in range(web.rods)])
    return rows


def corner_heights(web):
    return [heights_of(web, Row(row, 1)) for row in corner_numbers(web)]


def corner_sums(weights, heights):
    return [sum(weight * height for weight, height in zip(weights, row))
            for row in heights]


def wanted_reach(web, weights, heights=None):
    """The reach by the words of point 9."""
    sums = corner_sums(weights, heights or corner_heights(web))
    rows = corner_numbers(web)
    least, greatest = min(sums), max(sums)
    return Reach(told(least), told(greatest),
                 Places(rows[sums.index(least)], 1),
                 Places(rows[sums.index(greatest)], 1))


def fields_of(paper):
    return (paper.least, paper.greatest, (paper.low.numbers, paper.low.parts),
            (paper.high.numbers, paper.high.parts))


class TestReachClass(unittest.TestCase):

    LOW, HIGH = Places([1, 2], 1), Places([3, 2], 4)

    def assert_unlike(self, one, other):
        self.assertIs(one == other, False)
        self.assertIs(one != other, True)

    def test_fields(self):
        for least in ([1, 2], (1, 2), [], (3, 4, 5)):
            for greatest in ([-1, 2], (7, 1), ()):
                paper = Reach(least, greatest, self.LOW, self.HIGH)
                self.assertEqual((paper.least, paper.greatest),
                                 (tuple(least), tuple(greatest)))
                self.assertIs(type(paper.least), tuple)
                self.assertIs(type(paper.greatest), tuple)
                self.assertEqual(paper.low, self.LOW)
                self.assertEqual(paper.high, self.HIGH)

    def test_by_name(self):
        paper = Reach(high=self.HIGH, low=self.LOW, greatest=(2, 1),
                      least=(1, 1))
        self.assertEqual(paper, Reach((1, 1), (2, 1), self.LOW, self.HIGH))

    def test_lists_changed_behind(self):
        least, greatest = [1, 2], [3, 4]
        paper = Reach(least, greatest, self.LOW, self.HIGH)
        least[0] = greatest[1] = 9
        self.assertEqual((paper.least, paper.greatest), ((1, 2), (3, 4)))

    def test_equal_by_fields(self):
        row = ((1, 2), (3, 2), self.LOW, self.HIGH)
        self.assertIs(Reach(*row) == Reach([1, 2], [3, 2], Places([2, 4], 2),
                                           self.HIGH), True)
        self.assertIs(Reach(*row) != Reach(*row), False)
        for at, other in enumerate(((1, 3), (3, 4), self.HIGH, self.LOW)):
            changed = list(row)
            changed[at] = other
            self.assert_unlike(Reach(*row), Reach(*changed))

    def test_equal_to_nothing_of_another_class(self):
        class Below(Reach):
            pass

        row = ((1, 2), (3, 2), self.LOW, self.HIGH)
        paper = Reach(*row)
        for other in (Below(*row), row, list(row), None, 1, "1", Always(),
                      Firm((1, 2)), Stand((1, 2), 3), self.LOW):
            self.assert_unlike(paper, other)
        self.assert_unlike(Below(*row), paper)


class TestReach(Refusing):

    BY_HAND = [
        # One rod.
        (fan([(2, 8)]), [0, 0, 1], (2, 1), (8, 1), (2,), (8,)),
        (fan([(2, 8)]), [0, 0, -3], (-24, 1), (-6, 1), (8,), (2,)),
        (fan([(5, 5)]), [0, 0, 2], (10, 1), (10, 1), (5,), (5,)),
        # A difference, and a held rod's own weight.
        (fan([(2, 8), (1, 3)]), [0, 0, 1, -1], (-1, 1), (7, 1), (2, 3), (8, 1)),
        (fan([(2, 8)]), [5, 1, 0], (10, 1), (10, 1), (2,), (2,)),
        (fan([(2, 8)]), [5, -1, 1], (-8, 1), (-2, 1), (2,), (8,)),
        # Several corners have it: the first one is told.
        (fan([(2, 8)] * 3), [0, 0, 0, 1, 0], (2, 1), (8, 1), (2, 2, 2),
         (2, 8, 2)),
        (fan([(2, 8)] * 3), [0] * 5, (0, 1), (0, 1), (2, 2, 2), (2, 2, 2)),
        (fan([(2, 8)] * 2), [0, 0, 1, 1], (4, 1), (16, 1), (2, 2), (8, 8)),
        (fan([(2, 8), (4, 4)]), [0, 0, 0, 1], (4, 1), (4, 1), (2, 4), (2, 4)),
        # Fractions in lowest terms.
        (ring(), [0, 0, 1, 0], (0, 1), (1, 3), (0, 0), (1, 1)),
        (ring(), [0, 0, 0, 1], (0, 1), (2, 3), (0, 0), (1, 1)),
        (ring(), [0, 0, 3, 3], (0, 1), (3, 1), (0, 0), (1, 1)),
        (ring(), [0, 1, 0, -2], (-1, 3), (1, 1), (1, 1), (0, 0)),
        (ring((0, 1), (1, 2)), [0, 2, 0, -1], (1, 1), (3, 2), (0, 2), (0, 1)),
        # The determinant is above nought, then below.
        (beam((0, 1), (3, 4)), [0, 0, 1, 0], (-6, 1), (0, 1), (1, 3), (0, 3)),
        (beam((3, 4), (0, 1)), [0, 0, 1, 0], (12, 1), (18, 1), (3, 0), (3, 1)),
    ]

    def test_by_hand(self):
        for web, weights, least, greatest, low, high in self.BY_HAND:
            with self.subTest(weights=weights, least=least):
                paper = reach(web, weights)
                self.assertIs(type(paper), Reach)
                self.assertEqual(fields_of(paper),
                                 (least, greatest, (low, 1), (high, 1)))
                self.assertIs(is_reach(web, weights, paper), True)

    def test_many(self):
        signs = set()
        for web in firm_webs():
            signs.add(firm(web).numbers[0] > 0)
            heights = corner_heights(web)
            for weights in weights_for(web):
                paper = reach(web, weights)
                wanted = wanted_reach(web, weights, heights)
                self.assertEqual(fields_of(paper), fields_of(wanted))
                for name in ("least", "greatest"):
                    self.assertIs(type(getattr(paper, name)), tuple)
                self.assertIs(is_reach(web, weights, paper), True)
        self.assertEqual(signs, {True, False})

    def test_no_sum_is_beyond(self):
        for web in firm_webs():
            if len(web.bars) > 2:
                continue
            for weights in weights_for(web):
                paper = reach(web, weights)
                for row in grid(web, 5):
                    number = sum_of(web, weights, row)
                    self.assertLessEqual(Fraction(*paper.least), number)
                    self.assertLessEqual(number, Fraction(*paper.greatest))

    def test_eight_bars(self):
        paper = reach(fan([(2, 8)] * 8), [0, 0] + [1] * 8)
        self.assertEqual(fields_of(paper), ((16, 1), (64, 1), ((2,) * 8, 1),
                                            ((8,) * 8, 1)))

    def test_large_numbers(self):
        web = Web(3, {0: 10 ** 6, 1: -10 ** 6},
                  [Bar(0, 1, 2, 10 ** 6, 1, 10 ** 6 - 1)])
        weights = [0, 10 ** 30, 10 ** 40]
        paper = reach(web, weights)
        first = 10 ** 40 * (10 ** 6 - 2) - 10 ** 36
        last = -10 ** 40 * (10 ** 6 - 2) - 10 ** 36
        self.assertEqual((paper.least, paper.greatest),
                         ((last, 1), (first, 1)))

    def test_weights_as_a_list_and_as_a_tuple(self):
        for weights in ([0, 0, 1, -2], [0, 1, 1, 1]):
            self.assertEqual(reach(ring(), weights),
                             reach(ring(), tuple(weights)))

    def test_weights_changed_between_two_calls(self):
        web, weights = ring(), [0, 0, 1, 0]
        first = reach(web, weights)
        goal = met(web, weights, (1, 3))
        self.assertEqual(weights, [0, 0, 1, 0])
        weights[2], weights[3] = 0, 1
        self.assertEqual(reach(web, weights), wanted_reach(web, weights))
        self.assertNotEqual(reach(web, weights), first)
        self.assertIs(is_reach(web, weights, first), False)
        self.assertEqual(sum_of(web, weights, met(web, weights, (1, 3))),
                         Fraction(1, 3))
        weights[3] = 0
        weights[2] = 1
        self.assertEqual(reach(web, weights), first)
        self.assertEqual(met(web, weights, (1, 3)), goal)

    def test_by_name(self):
        self.assertEqual(reach(weights=[0, 0, 1, 0], web=ring()),
                         reach(ring(), [0, 0, 1, 0]))

    def test_told_alike_and_nothing_changed(self):
        web, weights = ring(), [0, 0, 1, -2]
        self.assertEqual(reach(web, weights), reach(web, weights))
        self.assertEqual(weights, [0, 0, 1, -2])
        self.assertEqual(web, ring())


class TestIsReach(unittest.TestCase):

    WEB = fan([(2, 8)] * 3)
    WEIGHTS = [0, 0, 0, 1, 0]

    def shown(self, least, greatest, low, high, parts=1):
        return is_reach(self.WEB, self.WEIGHTS,
                        Reach(least, greatest, Places(low, parts),
                              Places(high, parts)))

    def test_any_corner_with_the_same_sum(self):
        for row in itertools.product((2, 8), repeat=3):
            for other in itertools.product((2, 8), repeat=3):
                self.assertIs(self.shown((2, 1), (8, 1), row, other),
                              row[1] == 2 and other[1] == 8)

    def test_fractions_as_lists(self):
        self.assertIs(self.shown([2, 1], [8, 1], (2, 2, 2), (2, 8, 2)), True)

    def test_ends_exchanged(self):
        self.assertIs(self.shown((8, 1), (2, 1), (2, 8, 2), (2, 2, 2)), False)
        self.assertIs(self.shown((2, 1), (8, 1), (2, 8, 2), (2, 2, 2)), False)
        self.assertIs(self.shown((8, 1), (2, 1), (2, 2, 2), (2, 8, 2)), False)

    def test_other_fractions(self):
        for least in ((3, 1), (1, 1), (4, 2), (-2, -1), (2,), (2, 1, 1), (),
                      (2, 0), (0, 1), (8, 1)):
            with self.subTest(least=least):
                self.assertIs(self.shown(least, (8, 1), (2, 2, 2), (2, 8, 2)),
                              False)
        for greatest in ((7, 1), (9, 1), (16, 2), (-8, -1), (8,), (8, 1, 1),
                         (), (8, 0), (2, 1)):
            with self.subTest(greatest=greatest):
                self.assertIs(self.shown((2, 1), greatest, (2, 2, 2),
                                         (2, 8, 2)), False)

    def test_places_that_are_no_corners(self):
        for row, parts in (((3, 2, 2), 1), ((5, 4, 4), 2), ((2, 2), 1),
                           ((2, 2, 2, 2), 1), ((), 1), ((0, 2, 2), 1),
                           ((10, 2, 2), 1), ((-2, 2, 2), 1)):
            with self.subTest(row=row):
                paper = Reach((2, 1), (8, 1), Places(row, parts),
                              Places((2, 8, 2), 1))
                self.assertIs(is_reach(self.WEB, self.WEIGHTS, paper), False)
        for row, parts in (((3, 8, 2), 1), ((5, 16, 4), 2), ((2, 8), 1),
                           ((2, 8, 2, 2), 1), ((), 1), ((0, 8, 2), 1)):
            with self.subTest(row=row):
                paper = Reach((2, 1), (8, 1), Places((2, 2, 2), 1),
                              Places(row, parts))
                self.assertIs(is_reach(self.WEB, self.WEIGHTS, paper), False)

    def test_corners_with_their_sums_that_are_not_the_ends(self):
        weights = [0, 0, 1, 2, 4]
        sums = {row: row[0] + 2 * row[1] + 4 * row[2]
                for row in itertools.product((2, 8), repeat=3)}
        for row, other in itertools.product(sums, sums):
            paper = Reach((sums[row], 1), (sums[other], 1), Places(row, 1),
                          Places(other, 1))
            self.assertIs(is_reach(self.WEB, weights, paper),
                          row == (2, 2, 2) and other == (8, 8, 8))

    def test_many_papers(self):
        for web in firm_webs():
            if len(web.bars) > 2:
                continue
            found = corners(web)
            for weights in weights_for(web)[:4]:
                sums = corner_sums(weights, corner_heights(web))
                for at, to in itertools.product(range(len(found)), repeat=2):
                    paper = Reach(told(sums[at]), told(sums[to]), found[at],
                                  found[to])
                    wanted = (sums[at] == min(sums) and sums[to] == max(sums))
                    self.assertIs(is_reach(web, weights, paper), wanted)

    def test_another_class(self):
        class Below(Reach):
            pass

        class Alike:
            least, greatest = (0, 1), (1, 3)
            low, high = Places([0, 0], 1), Places([1, 1], 1)

        row = (Alike.least, Alike.greatest, Alike.low, Alike.high)
        weights = [0, 0, 1, 0]
        self.assertIs(is_reach(ring(), weights, Reach(*row)), True)
        for paper in (Below(*row), Alike(), row, None, 1, "1", Always(),
                      Firm((4, 4, 2, 3)), Stand((0, 1), 3), Alike.low):
            self.assertIs(is_reach(ring(), weights, paper), False)

    def test_by_name(self):
        paper = reach(ring(), [0, 0, 1, 0])
        self.assertIs(is_reach(paper=paper, weights=(0, 0, 1, 0), web=ring()),
                      True)


class TestMet(Refusing):

    def assert_met(self, web, weights, goal):
        found = met(web, weights, goal)
        self.assertIs(type(found), Places)
        self.assertIs(is_within(web, found), True)
        self.assertEqual(sum_of(web, weights, found), Fraction(*goal))
        self.assertEqual(met(web, weights, list(goal)), found)

    def test_by_hand(self):
        web = fan([(2, 8)])
        for goal in ((2, 1), (8, 1), (5, 1), (7, 2), (1000, 333), (799, 100)):
            self.assert_met(web, [0, 0, 1], goal)
            self.assertEqual(met(web, [0, 0, 1], goal),
                             Places([goal[0]], goal[1]))

    def test_between_in_odd_fractions(self):
        for web in firm_webs():
            heights = corner_heights(web)
            for weights in weights_for(web):
                paper = wanted_reach(web, weights, heights)
                least = Fraction(*paper.least)
                greatest = Fraction(*paper.greatest)
                for share in (Fraction(0), Fraction(1), Fraction(1, 2),
                              Fraction(17, 1000003), Fraction(996, 997)):
                    goal = told(least + share * (greatest - least))
                    if len(web.bars) < 4 or share == Fraction(1, 2):
                        self.assert_met(web, weights, goal)

    def test_just_beyond_on_either_side(self):
        for web in firm_webs():
            if len(web.bars) > 3:
                continue
            heights = corner_heights(web)
            for weights in weights_for(web):
                paper = wanted_reach(web, weights, heights)
                step = Fraction(1, 10 ** 20)
                for goal in (Fraction(*paper.least) - step,
                             Fraction(*paper.greatest) + step,
                             Fraction(*paper.least) - 1,
                             Fraction(*paper.greatest) + 1):
                    self.assert_refused(Beyond(paper.least, paper.greatest),
                                        met, web, weights, told(goal))

    def test_fields_of_beyond(self):
        error = refusal_of(met, ring(), [0, 0, 2, 0], (1, 1))
        self.assertIs(type(error), Beyond)
        self.assertEqual((error.least, error.greatest), ((0, 1), (2, 3)))
        self.assertIs(type(error.least), tuple)
        self.assertIs(type(error.greatest), tuple)
        error = refusal_of(met, ring(), [0, 0, 2, 0], [-1, 10])
        self.assertEqual((error.least, error.greatest), ((0, 1), (2, 3)))

    def test_spans_of_one_place(self):
        web = fan([(3, 3), (7, 7)])
        weights = [0, 0, 1, 2]
        self.assert_met(web, weights, (17, 1))
        self.assertEqual(met(web, weights, (17, 1)), Places([3, 7], 1))
        for goal in ((16, 1), (18, 1), (169, 10), (171, 10), (-17, 1)):
            self.assert_refused(Beyond((17, 1), (17, 1)), met, web, weights,
                                goal)
        some = fan([(3, 3), (2, 8)])
        for goal in ((7, 1), (19, 1), (26, 3)):
            self.assert_met(some, weights, goal)

    def test_no_weight(self):
        self.assert_met(ring(), [0] * 4, (0, 1))
        self.assert_refused(Beyond((0, 1), (0, 1)), met, ring(), [0] * 4,
                            (1, 10 ** 9))

    def test_eight_bars(self):
        web, weights = fan([(2, 8)] * 8), [0, 0] + [1] * 8
        for goal in ((16, 1), (64, 1), (40, 1), (1001, 37)):
            self.assert_met(web, weights, goal)

    def test_by_name(self):
        self.assertEqual(met(goal=(1, 4), weights=[0, 0, 1, 0], web=ring()),
                         met(ring(), [0, 0, 1, 0], (1, 4)))

    def test_nothing_changed(self):
        weights, goal = [0, 0, 1, 0], [1, 4]
        met(ring(), weights, goal)
        self.assertIsNotNone(refusal_of(met, ring(), weights, [9, 1]))
        self.assertEqual((weights, goal), ([0, 0, 1, 0], [1, 4]))


class TestOrder(Refusing):

    def test_by_hand(self):
        told_pairs = [
            (fan([(2, 8)]), [(1, 0), (1, 2), (2, 0)]),
            (fan([(0, 8)]), [(1, 0), (1, 2)]),
            (fan([(2, 10)]), [(1, 0), (2, 0)]),
            (fan([(0, 10)]), [(1, 0)]),
            (fan([(2, 5), (6, 8)]),
             [(1, 0), (1, 2), (1, 3), (2, 0), (3, 0), (3, 2)]),
            # Level at one corner: in neither.
            (fan([(2, 5), (5, 8)]), [(1, 0), (1, 2), (1, 3), (2, 0), (3, 0)]),
            (fan([(4, 4), (4, 4)]), [(1, 0), (1, 2), (1, 3), (2, 0), (3, 0)]),
            (ring(), [(1, 0), (1, 2), (1, 3)]),
            (beam((0, 1), (3, 4)), [(1, 0), (1, 2), (3, 0), (3, 2)]),
            (Web(3, {0: 4, 1: 4}, [Bar(0, 1, 2, 6, 1, 5)]), []),
        ]
        for web, pairs in told_pairs:
            with self.subTest(pairs=pairs):
                self.assertEqual(order(web), pairs)

    def test_many(self):
        for web in firm_webs():
            heights = corner_heights(web)
            rods = range(web.rods)
            wanted = [(r, u) for r, u in itertools.product(rods, rods)
                      if all(row[r] > row[u] for row in heights)]
            pairs = order(web)
            self.assertIs(type(pairs), list)
            self.assertEqual(pairs, wanted)
            self.assertEqual(pairs, sorted(pairs))
            if len(web.bars) < 3:
                for row in grid(web, 4):
                    inner = heights_of(web, row)
                    self.assertTrue(all(inner[r] > inner[u] for r, u in pairs))

    def test_where_heights_are_told_in_unlike_bottoms(self):
        web = ring((0, 1), (1, 1))
        self.assertEqual(stand(web, Places([0, 1], 1)).bottom, 2)
        self.assertEqual(stand(web, Places([1, 1], 1)).bottom, 3)
        self.assertEqual(order(web), [(1, 0), (1, 2), (1, 3), (3, 0), (3, 2)])

    def test_eight_bars(self):
        pairs = order(fan([(k, k + 1) for k in range(1, 9)]))
        self.assertEqual(
            pairs, sorted([(1, rod) for rod in range(10) if rod != 1]
                          + [(rod, 0) for rod in range(2, 10)]
                          + [(r, u) for r in range(2, 10)
                             for u in range(2, r - 1)]))

    def test_a_new_list_each_time(self):
        web = fan([(2, 8)])
        pairs = order(web)
        pairs.append((7, 7))
        del pairs[0]
        self.assertEqual(order(web), [(1, 0), (1, 2), (2, 0)])
        self.assertTrue(all(type(pair) is tuple for pair in order(web)))

    def test_by_name(self):
        self.assertEqual(order(web=ring()), order(ring()))

    def test_refused(self):
        for web in (astray(), ring((0, 2), (0, 2)), beam((0, 3), (2, 4)),
                    beam((0, 2), (2, 4))):
            self.assert_refused(Loose(), order, web)


class TestRefusals(Refusing):

    # Loose, and firm only of hooks inside of their spans.
    LOOSE = (astray(), ring((0, 2), (0, 2)), beam((0, 3), (2, 4)),
             beam((0, 2), (2, 4)))

    def calls(self):
        paper = Reach((0, 1), (0, 1), Places([0, 0], 1), Places([0, 0], 1))
        return [reach, lambda web, weights: is_reach(web, weights, paper),
                lambda web, weights: is_reach(web, weights, None),
                lambda web, weights: met(web, weights, (99, 1))]

    def test_weights_too_few_and_too_many(self):
        for web in (ring(), fan([(2, 8)]), fan([(2, 8)] * 8)):
            for many in range(web.rods + 4):
                if many != web.rods:
                    for call in self.calls():
                        self.assert_refused(BadCount("weights", many), call,
                                            web, [1] * many)

    def test_loose(self):
        for web, call in itertools.product(self.LOOSE, self.calls()):
            self.assert_refused(Loose(), call, web, [0, 0, 1, 0])
            self.assert_refused(Loose(), call, web, (0,) * 4)

    def test_weights_ahead_of_loose(self):
        for web, call in itertools.product(self.LOOSE, self.calls()):
            for many in (0, 3, 5):
                self.assert_refused(BadCount("weights", many), call, web,
                                    [1] * many)

    def test_weights_and_loose_ahead_of_beyond(self):
        self.assert_refused(BadCount("weights", 3), met, ring(), [1] * 3,
                            (10 ** 9, 1))
        self.assert_refused(Loose(), met, astray(), [1] * 4, (10 ** 9, 1))

    def test_refusals_change_nothing(self):
        weights = [0, 0, 1]
        for web, call in itertools.product(self.LOOSE, self.calls()):
            self.assertIsNotNone(refusal_of(call, web, weights))
        self.assertEqual(weights, [0, 0, 1])
        self.assertEqual(self.LOOSE[0], astray())


if __name__ == "__main__":
    unittest.main()
