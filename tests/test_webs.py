"""Bars and webs (points 2 and 3)."""

import copy
import itertools
import unittest

from hookspans.errors import BadCount, BadSpan, NoRod, NotSquare, SameRod
from hookspans.places import Places
from hookspans.webs import Bar, Web

from tests.making import Always, Refusing, fan, refusal_of

MILLION = 10 ** 6
BAR_FIELDS = ("a", "b", "c", "length", "least", "greatest")


def plain(number, rods=5):
    """A bar of the plain web: its hook on the rod 1 + number."""
    return Bar(0, rods - 1, 1 + number, 10, 2, 8)


def plain_web(**other):
    """Rods 0 and 4 held, three bars, but for what is told otherwise."""
    told = {"rods": 5, "held": {0: 0, 4: 9},
            "bars": [plain(0), plain(1), plain(2)]}
    told.update(other)
    return Web(**told)


class TestBar(unittest.TestCase):

    def test_fields_by_place_and_by_name(self):
        worths = (4, 3, 2, 90, 7, 11)
        named = dict(reversed(list(zip(BAR_FIELDS, worths))))
        for bar in (Bar(*worths), Bar(**named)):
            for field, worth in zip(BAR_FIELDS, worths):
                with self.subTest(field=field):
                    self.assertEqual(getattr(bar, field), worth)

    def test_refused_nothing(self):
        rows = [(0, 0, 0, 0, 0, 0), (-1, -1, 99, -5, 8, 2),
                (3, 3, 3, MILLION + 1, -7, 10 ** 40)]
        for row in rows:
            with self.subTest(row=row):
                bar = Bar(*row)
                self.assertEqual(
                    tuple(getattr(bar, field) for field in BAR_FIELDS), row)

    def test_equal_by_all_six_fields(self):
        row = (0, 1, 2, 10, 3, 6)
        self.assertTrue(Bar(*row) == Bar(*row))
        self.assertFalse(Bar(*row) != Bar(*row))
        for at, field in enumerate(BAR_FIELDS):
            other = list(row)
            other[at] += 1
            with self.subTest(field=field):
                self.assertFalse(Bar(*row) == Bar(*other))
                self.assertTrue(Bar(*row) != Bar(*other))

    def test_ends_turned_about_are_another_bar(self):
        self.assertNotEqual(Bar(0, 1, 2, 10, 3, 7), Bar(1, 0, 2, 10, 3, 7))

    def test_equal_to_nothing_of_another_class(self):
        class Below(Bar):
            pass

        class Alike:
            def __init__(self, bar):
                vars(self).update(vars(bar))

        row = (0, 1, 2, 10, 3, 6)
        bar = Bar(*row)
        others = [Below(*row), Alike(bar), row, list(row), vars(bar), None, 0,
                  "bar", Always(), fan([(0, 1)]), Places(row, 1)]
        for other in others:
            with self.subTest(other=type(other).__name__):
                self.assertIs(bar == other, False)
                self.assertIs(bar != other, True)
        self.assertIs(Below(*row) == bar, False)


class TestWebCounts(Refusing):

    def test_rods_at_the_edges(self):
        for rods in (3, 10):
            with self.subTest(rods=rods):
                self.assertEqual(fan([(2, 8)] * (rods - 2)).rods, rods)
        for rods in (2, 11, 1, 0, -1, 1000):
            bars = [Bar(0, 1, 2, 10, 2, 8)] * max(rods - 2, 1)
            with self.subTest(rods=rods):
                self.assert_refused(BadCount("rods", rods),
                                    Web, rods, {0: 0, 1: 10}, bars[:8])

    def test_ten_rods_with_one_bar(self):
        held = {rod: rod for rod in range(9)}
        web = Web(10, held, [Bar(0, 8, 9, 10, 2, 8)])
        self.assertEqual(web.hanging(), [9])

    def test_held_rods_that_are_none(self):
        bars = [Bar(0, 1, 2, 10, 2, 8)]
        for rods, stray in ((3, -1), (3, 3), (3, 4), (3, 10 ** 9), (3, -5)):
            with self.subTest(stray=stray):
                self.assert_refused(NoRod(stray), Web, rods,
                                    {0: 0, stray: 1}, bars)

    def test_least_of_the_held_rods_that_are_none(self):
        cases = [([-1, -2, 9], -2), ([9, 5, 7], 5), ([12, -1], -1)]
        for strays, wanted in cases:
            for keys in itertools.permutations([0, 4] + strays):
                with self.subTest(keys=keys):
                    held = {rod: 0 for rod in keys}
                    self.assert_refused(NoRod(wanted), plain_web, held=held)

    def test_heights_at_the_edges(self):
        for height in (MILLION, -MILLION, 0, MILLION - 1):
            for rod in (0, 4):
                held = {0: 0, 4: 0}
                held[rod] = height
                with self.subTest(rod=rod, height=height):
                    self.assertEqual(plain_web(held=held).held(), held)
        for height in (MILLION + 1, -MILLION - 1, 10 ** 30, -10 ** 30):
            for rod in (0, 4):
                held = {0: 0, 4: 0}
                held[rod] = height
                with self.subTest(rod=rod, height=height):
                    self.assert_refused(BadCount("height", height),
                                        plain_web, held=held)

    def test_first_height_amiss_rising(self):
        heights = {0: MILLION, 1: -MILLION - 5, 2: MILLION + 3,
                   3: MILLION + 1, 4: -MILLION - 9}
        for keys in itertools.permutations(heights):
            with self.subTest(keys=keys):
                held = {rod: heights[rod] for rod in keys}
                self.assert_refused(BadCount("height", -MILLION - 5),
                                    plain_web, held=held)

    def test_none_held(self):
        bars = [plain(0), plain(1), plain(2)]
        self.assert_refused(BadCount("held", 0), Web, 3, {}, bars)
        self.assert_refused(BadCount("held", 0), plain_web, held={})

    def test_one_held(self):
        bars = [Bar(0, 1, 2, 10, 2, 8), Bar(0, 2, 1, 10, 2, 8)]
        self.assertEqual(Web(3, {0: 5}, bars).hanging(), [1, 2])

    def test_bars_at_the_edges(self):
        for many in (1, 8):
            with self.subTest(many=many):
                self.assertEqual(len(fan([(2, 8)] * many).bars), many)
        bar = Bar(0, 1, 2, 10, 2, 8)
        self.assert_refused(BadCount("bars", 0), Web, 3, {0: 0, 1: 1}, [])
        self.assert_refused(BadCount("bars", 9), Web, 10, {0: 0}, [bar] * 9)
        self.assert_refused(BadCount("bars", 9), Web, 3, {0: 0, 1: 1}, [bar] * 9)

    def test_all_held_and_no_bar(self):
        held = {0: 0, 1: 0, 2: 0}
        self.assert_refused(BadCount("bars", 0), Web, 3, held, [])

    def test_as_many_bars_as_hanging_rods(self):
        bars = [plain(0), plain(1), plain(2), plain(0)]
        self.assert_refused(NotSquare(4, 3), plain_web, bars=bars)
        self.assert_refused(NotSquare(2, 3), plain_web, bars=bars[:2])
        self.assert_refused(NotSquare(1, 3), plain_web, bars=tuple(bars[:1]))
        self.assert_refused(NotSquare(1, 0), Web, 3, {0: 0, 1: 0, 2: 0},
                            [Bar(0, 1, 2, 10, 2, 8)])
        self.assert_refused(NotSquare(8, 9), Web, 10, {0: 0}, [bars[0]] * 8)


class TestWebBars(Refusing):

    BARS_AMISS = [
        ((-1, 1, 2, 10, 2, 8), NoRod(-1)),
        ((5, 1, 2, 10, 2, 8), NoRod(5)),
        ((0, -1, 2, 10, 2, 8), NoRod(-1)),
        ((0, 5, 2, 10, 2, 8), NoRod(5)),
        ((0, 1, -1, 10, 2, 8), NoRod(-1)),
        ((0, 1, 5, 10, 2, 8), NoRod(5)),
        ((3, 3, 2, 10, 2, 8), SameRod(3)),
        ((3, 1, 3, 10, 2, 8), SameRod(3)),
        ((0, 1, 1, 10, 2, 8), SameRod(1)),
        ((0, 1, 2, 0, 0, 0), BadCount("length", 0)),
        ((0, 1, 2, -4, 0, 0), BadCount("length", -4)),
        ((0, 1, 2, MILLION + 1, 2, 8), BadCount("length", MILLION + 1)),
        ((0, 1, 2, 10, -1, 8), BadSpan(0)),
        ((0, 1, 2, 10, -2, -1), BadSpan(0)),
        ((0, 1, 2, 10, 6, 5), BadSpan(0)),
        ((0, 1, 2, 10, 10, 0), BadSpan(0)),
        ((0, 1, 2, 10, 2, 11), BadSpan(0)),
        ((0, 1, 2, 10, 11, 11), BadSpan(0)),
        ((0, 1, 2, 1, 0, 2), BadSpan(0)),
    ]

    TWO_AMISS = [
        ((5, 6, 2, 10, 2, 8), NoRod(5)),
        ((5, 1, 6, 10, 2, 8), NoRod(5)),
        ((0, 6, 5, 10, 2, 8), NoRod(6)),
        ((0, 6, -1, 10, 2, 8), NoRod(6)),
        ((7, 7, 2, 10, 2, 8), NoRod(7)),
        ((7, 1, 7, 10, 2, 8), NoRod(7)),
        ((0, 7, 0, 10, 2, 8), NoRod(7)),
        ((0, 0, 5, 10, 2, 8), NoRod(5)),
        ((1, 1, 1, 10, 2, 8), SameRod(1)),
        ((5, 1, 2, 0, 0, 0), NoRod(5)),
        ((0, 5, 2, 0, 0, 0), NoRod(5)),
        ((0, 1, 5, 0, 0, 0), NoRod(5)),
        ((5, 1, 2, 10, 8, 2), NoRod(5)),
        ((0, 5, 2, 10, 8, 2), NoRod(5)),
        ((0, 1, 5, 10, 8, 2), NoRod(5)),
        ((1, 1, 2, 0, 0, 0), SameRod(1)),
        ((0, 1, 1, 0, 0, 0), SameRod(1)),
        ((1, 1, 2, 10, 8, 2), SameRod(1)),
        ((1, 0, 1, 10, 8, 2), SameRod(1)),
        ((0, 1, 2, 0, 0, 1), BadCount("length", 0)),
        ((0, 1, 2, MILLION + 1, 8, 2), BadCount("length", MILLION + 1)),
        ((0, 1, 2, MILLION + 1, 0, MILLION + 2),
         BadCount("length", MILLION + 1)),
    ]

    BARS_RIGHT = [
        (4, 3, 2, 10, 2, 8),
        (0, 4, 2, 10, 2, 8),
        (2, 1, 0, 10, 2, 8),
        (1, 2, 4, 10, 2, 8),
        (0, 1, 2, 1, 0, 1),
        (0, 1, 2, 1, 0, 0),
        (0, 1, 2, 1, 1, 1),
        (0, 1, 2, 10, 0, 10),
        (0, 1, 2, 10, 0, 0),
        (0, 1, 2, 10, 5, 5),
        (0, 1, 2, 10, 10, 10),
        (0, 1, 2, MILLION, 0, MILLION),
        (0, 1, 2, MILLION, MILLION, MILLION),
    ]

    def test_bar_refused(self):
        for row, wanted in self.BARS_AMISS:
            with self.subTest(row=row):
                bars = [Bar(*row), plain(1), plain(2)]
                self.assert_refused(wanted, plain_web, bars=bars)

    def test_order_of_what_is_amiss_in_a_bar(self):
        for row, wanted in self.TWO_AMISS:
            with self.subTest(row=row):
                bars = [Bar(*row), plain(1), plain(2)]
                self.assert_refused(wanted, plain_web, bars=bars)

    def test_bar_not_refused(self):
        for row in self.BARS_RIGHT:
            with self.subTest(row=row):
                bars = (Bar(*row), plain(1), plain(2))
                self.assertEqual(plain_web(bars=bars).bars, bars)

    def test_span_names_its_bar(self):
        for number in range(8):
            spans = [(2, 8)] * 8
            spans[number] = (8, 2)
            with self.subTest(number=number):
                self.assert_refused(BadSpan(number), fan, spans)

    def test_first_bar_amiss_whatever_is_amiss_in_it(self):
        kinds = [((0, 9, 2, 10, 2, 8), NoRod(9)),
                 ((2, 2, 3, 10, 2, 8), SameRod(2)),
                 ((0, 1, 2, 0, 0, 0), BadCount("length", 0)),
                 ((0, 1, 2, 10, 8, 2), BadSpan(1))]
        for (first, wanted), (later, _) in itertools.permutations(kinds, 2):
            with self.subTest(first=first, later=later):
                bars = [plain(0), Bar(*first), Bar(*later)]
                self.assert_refused(wanted, plain_web, bars=bars)


def two_rods(told):
    told["rods"] = 2


def eleven_rods(told):
    told["rods"] = 11


def stray_held(told):
    told["held"][-1] = 0


def high_height(told):
    told["held"][4] = MILLION + 1


def none_held(told):
    told["held"] = {}


def nine_bars(told):
    told["bars"] = (told["bars"] * 9)[:9]


def no_bars(told):
    told["bars"] = []


def bar_too_few(told):
    told["bars"] = told["bars"][:2]


def missing_rod(told):
    told["bars"][0] = Bar(0, 1, 9, 10, 2, 8)


def rod_twice(told):
    told["bars"][0] = Bar(0, 1, 1, 10, 2, 8)


def long_bar(told):
    told["bars"][0] = Bar(0, 1, 2, MILLION + 1, 2, 8)


def turned_span(told):
    told["bars"][0] = Bar(0, 1, 2, 10, 8, 2)


class TestWebOrder(Refusing):

    FAULTS = [
        [(two_rods, BadCount("rods", 2)), (eleven_rods, BadCount("rods", 11))],
        [(stray_held, NoRod(-1))],
        [(high_height, BadCount("height", MILLION + 1))],
        [(none_held, BadCount("held", 0))],
        [(nine_bars, BadCount("bars", 9)), (no_bars, BadCount("bars", 0))],
        [(bar_too_few, NotSquare(2, 3))],
        [(missing_rod, NoRod(9)), (rod_twice, SameRod(1)),
         (long_bar, BadCount("length", MILLION + 1)),
         (turned_span, BadSpan(0))],
    ]

    # Where none is held, no held rod can be amiss.
    NEVER_BOTH = [(stray_held, none_held), (high_height, none_held)]

    def test_the_earlier_of_two_faults_is_told(self):
        for earlier, later in itertools.combinations(self.FAULTS, 2):
            for (first, wanted), (second, _) in itertools.product(earlier, later):
                if (first, second) in self.NEVER_BOTH:
                    continue
                with self.subTest(first=first.__name__, second=second.__name__):
                    told = {"rods": 5, "held": {0: 0, 4: 9},
                            "bars": [plain(0), plain(1), plain(2)]}
                    second(told)
                    first(told)
                    self.assert_refused(wanted, Web, **told)

    def test_missing_rod_ahead_of_a_height_of_a_lower_rod(self):
        held = {0: MILLION + 1, 4: 0, 7: 0}
        self.assert_refused(NoRod(7), plain_web, held=held)

    def test_a_refusal_changes_nothing(self):
        for first, wanted in itertools.chain.from_iterable(self.FAULTS):
            told = {"rods": 5, "held": {4: 9, 0: 0},
                    "bars": [plain(0), plain(1), plain(2)]}
            first(told)
            before = copy.deepcopy(told)
            with self.subTest(fault=first.__name__):
                self.assertIsNotNone(refusal_of(Web, **told))
                self.assertEqual(told, before)
                self.assertEqual(list(told["held"]), list(before["held"]))


class TestWebFields(unittest.TestCase):

    def test_fields_by_place_and_by_name(self):
        bars = [Bar(0, 3, 1, 10, 2, 8), Bar(1, 3, 2, 7, 0, 7)]
        webs = [Web(4, {3: -5, 0: 2}, bars),
                Web(bars=bars, held={3: -5, 0: 2}, rods=4)]
        for web in webs:
            self.assertEqual(web.rods, 4)
            self.assertEqual(web.held(), {0: 2, 3: -5})
            self.assertEqual(web.hanging(), [1, 2])
            self.assertIs(type(web.bars), tuple)
            self.assertEqual(web.bars, tuple(bars))

    def test_bars_from_a_list_and_from_a_tuple(self):
        bars = [plain(0), plain(1), plain(2)]
        for row in (bars, tuple(bars)):
            web = plain_web(bars=row)
            self.assertIs(type(web.bars), tuple)
            self.assertEqual(web.bars, tuple(bars))
        self.assertEqual(plain_web(bars=bars), plain_web(bars=tuple(bars)))

    def test_bars_keep_their_order(self):
        bars = [plain(2), plain(0), plain(1)]
        self.assertEqual(plain_web(bars=bars).bars, tuple(bars))
        self.assertEqual([bar.c for bar in plain_web(bars=bars).bars], [3, 1, 2])

    def test_hanging_rises_and_held_may_stand_anywhere(self):
        bars = [Bar(0, 1, 2, 10, 2, 8)] * 3
        for keys in itertools.combinations(range(6), 3):
            for order in itertools.permutations(keys):
                with self.subTest(order=order):
                    web = Web(6, {rod: rod * 3 for rod in order}, bars)
                    self.assertEqual(
                        web.hanging(),
                        [rod for rod in range(6) if rod not in keys])
                    self.assertEqual(web.held(), {rod: rod * 3 for rod in keys})

    def test_held_is_told_alike_whatever_the_order_of_the_keys(self):
        for held in ({0: 0, 4: 9}, {4: 9, 0: 0}):
            self.assertEqual(list(plain_web(held=held).held().items()),
                             [(0, 0), (4, 9)])

    def test_held_and_hanging_are_new_each_time(self):
        web = plain_web()
        self.assertIs(type(web.held()), dict)
        self.assertIs(type(web.hanging()), list)
        self.assertIsNot(web.held(), web.held())
        self.assertIsNot(web.hanging(), web.hanging())
        self.assertEqual(web.held(), web.held())
        self.assertEqual(web.hanging(), web.hanging())

    def test_what_is_told_changed_changes_nothing(self):
        web = plain_web()
        held, hanging = web.held(), web.hanging()
        held[0] = 77
        held[2] = 1
        del held[4]
        hanging.append(9)
        hanging[0] = 0
        self.assertEqual(web.held(), {0: 0, 4: 9})
        self.assertEqual(web.hanging(), [1, 2, 3])
        self.assertEqual(web, plain_web())

    def test_what_was_handed_in_changed_changes_nothing(self):
        held = {0: 0, 4: 9}
        bars = [plain(0), plain(1), plain(2)]
        web = Web(5, held, bars)
        held[0] = 55
        held[1] = 1
        del held[4]
        bars.append(plain(0))
        bars[1] = Bar(9, 9, 9, 9, 9, 9)
        self.assertEqual(web.held(), {0: 0, 4: 9})
        self.assertEqual(web.hanging(), [1, 2, 3])
        self.assertEqual(web.bars, (plain(0), plain(1), plain(2)))
        self.assertEqual(web, plain_web())

    def test_what_is_handed_in_is_not_changed(self):
        held = {4: 9, 0: 0}
        bars = [plain(0), plain(1), plain(2)]
        web = Web(5, held, bars)
        web.held()
        web.hanging()
        self.assertEqual(list(held.items()), [(4, 9), (0, 0)])
        self.assertEqual(bars, [plain(0), plain(1), plain(2)])


class TestWebEqual(unittest.TestCase):

    def assert_unlike(self, web, other):
        self.assertIs(web == other, False)
        self.assertIs(web != other, True)

    def test_equal_whatever_the_order_of_the_keys(self):
        bars = [Bar(0, 1, 4, 10, 2, 8), Bar(0, 1, 3, 10, 2, 8)]
        heights = {0: 4, 1: 5, 2: 6}
        web = Web(5, heights, bars)
        for keys in itertools.permutations(heights):
            other = Web(5, {rod: heights[rod] for rod in keys}, tuple(bars))
            with self.subTest(keys=keys):
                self.assertIs(web == other, True)
                self.assertIs(web != other, False)

    def test_unlike_rods(self):
        bars = [Bar(0, 1, 2, 10, 2, 8)]
        self.assert_unlike(Web(3, {0: 0, 1: 0}, bars),
                           Web(4, {0: 0, 1: 0, 3: 0}, bars))

    def test_unlike_rods_alone(self):
        web, other = plain_web(), plain_web()
        other.rods = 6
        self.assert_unlike(web, other)

    def test_unlike_heights_and_unlike_held_rods(self):
        web = plain_web(held={0: 0, 4: 9})
        self.assert_unlike(web, plain_web(held={0: 0, 4: 8}))
        self.assert_unlike(web, plain_web(held={0: 9, 4: 0}))
        self.assert_unlike(web, plain_web(held={0: 0, 3: 9}))

    def test_unlike_bars(self):
        web = plain_web()
        for field in BAR_FIELDS:
            row = vars(plain(1)).copy()
            row[field] += 1
            row["a"] = 3 if field == "a" else row["a"]
            row["b"] = 1 if field == "b" else row["b"]
            bars = [plain(0), Bar(**row), plain(2)]
            with self.subTest(field=field):
                self.assert_unlike(web, plain_web(bars=bars))
        self.assert_unlike(web, plain_web(bars=[plain(1), plain(0), plain(2)]))

    def test_equal_to_nothing_of_another_class(self):
        class Below(Web):
            pass

        told = (3, {0: 0, 1: 10}, (Bar(0, 1, 2, 10, 2, 8),))
        web = Web(*told)
        others = [Below(*told), told, list(told), None, 3, "web", Always(),
                  told[2][0], Places([2], 1)]
        for other in others:
            with self.subTest(other=type(other).__name__):
                self.assert_unlike(web, other)
        self.assert_unlike(Below(*told), web)


if __name__ == "__main__":
    unittest.main()
