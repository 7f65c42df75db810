"""Webs, fractions and places as texts (point 16)."""

import itertools
import random
import unittest
from fractions import Fraction

from hookspans.errors import (BadCount, BadRow, BadSpan, NoRod, NotSquare,
                              SameRod)
from hookspans.places import Places
from hookspans.webs import Bar, Web
from hookspans.webtexts import (fraction_text, places_text, read_web, web_rows)

from tests.exact import many_webs
from tests.making import Refusing, fan, refusal_of

ROWS = ["rods 5", "held 0 0", "held 3 -12", "bar 0 3 1 10 2 8",
        "bar 1 0 2 9 0 9", "bar 2 3 4 1 1 1"]

NO_NUMBERS = ["", "00", "01", "007", "+1", "1.", "1.0", "1_0", "0x1", "a", "1a",
              "a1", "--1", "-", "-0", "-00", "-01", "1-", "10000000", "00000000",
              "12345678", "99999999", "-12345678", "-10000000", "1/2", ";", "1;",
              "#", "!", "one", "~"]


def plain_rows(web):
    """The rows of a web by the words of point 16."""
    rows = ["rods " + str(web.rods)]
    held = web.held()
    for rod in range(web.rods):
        if rod in held:
            rows.append(" ".join(["held", str(rod), str(held[rod])]))
    for bar in web.bars:
        rows.append(" ".join(["bar"] + [str(number) for number in (
            bar.a, bar.b, bar.c, bar.length, bar.least, bar.greatest)]))
    return rows


def parted(row):
    return row.split(" ")


class TestThereAndBack(unittest.TestCase):

    def assert_there_and_back(self, web):
        rows = web_rows(web)
        self.assertEqual(rows, plain_rows(web))
        self.assertIs(type(rows), list)
        for handed in (rows, tuple(rows)):
            read = read_web(handed)
            self.assertIs(type(read), Web)
            self.assertEqual(read, web)
            self.assertEqual(web_rows(read), rows)

    def test_one_to_eight_bars(self):
        for many in range(1, 9):
            spans = [(k, 10 - k // 2) for k in range(many)]
            with self.subTest(many=many):
                self.assert_there_and_back(fan(spans))

    def test_many_webs(self):
        for web in (many_webs(161, 120, (1, 2, 3, 4, 5, 6, 7, 8), tame=False)
                    + many_webs(162, 40, (1, 8), length=10 ** 6)):
            self.assert_there_and_back(web)

    def test_heights_at_their_edges(self):
        for low, high in ((-10 ** 6, 10 ** 6), (10 ** 6, -10 ** 6), (-1, 0),
                          (0, -1), (0, 0), (-10, -999999)):
            web = Web(3, {0: low, 1: high}, [Bar(0, 1, 2, 4, 1, 2)])
            with self.subTest(low=low, high=high):
                self.assert_there_and_back(web)
                self.assertEqual(web_rows(web)[1:3],
                                 [f"held 0 {low}", f"held 1 {high}"])

    def test_lengths_and_spans_at_their_edges(self):
        for length in (1, 10 ** 6):
            for least, greatest in ((0, 0), (0, length), (length, length)):
                self.assert_there_and_back(
                    Web(3, {0: 0, 1: 9}, [Bar(0, 1, 2, length, least, greatest)]))

    def test_rods_at_their_edges(self):
        bar = Bar(0, 1, 2, 4, 1, 2)
        self.assert_there_and_back(Web(3, {0: 0, 1: 9}, [bar]))
        held = {rod: -rod for rod in range(10) if rod != 2}
        self.assert_there_and_back(Web(10, held, [bar]))

    def test_held_rising_whatever_the_order_of_the_keys(self):
        for keys in itertools.permutations((0, 2, 4)):
            web = Web(5, {rod: rod * 3 for rod in keys},
                      [Bar(0, 2, 1, 4, 1, 2), Bar(1, 4, 3, 4, 1, 2)])
            self.assertEqual(web_rows(web)[:4],
                             ["rods 5", "held 0 0", "held 2 6", "held 4 12"])
            self.assert_there_and_back(web)

    def test_bars_in_their_order(self):
        bars = [Bar(2, 1, 0, 7, 1, 6), Bar(1, 2, 3, 5, 2, 3)]
        one = Web(4, {1: 0, 2: 9}, bars)
        other = Web(4, {1: 0, 2: 9}, bars[::-1])
        self.assertEqual(web_rows(one)[3:], ["bar 2 1 0 7 1 6", "bar 1 2 3 5 2 3"])
        self.assertEqual(web_rows(other)[3:],
                         ["bar 1 2 3 5 2 3", "bar 2 1 0 7 1 6"])
        self.assertNotEqual(read_web(web_rows(one)), other)

    def test_written_out(self):
        web = read_web(ROWS)
        self.assertEqual(web, Web(5, {0: 0, 3: -12}, [
            Bar(0, 3, 1, 10, 2, 8), Bar(1, 0, 2, 9, 0, 9), Bar(2, 3, 4, 1, 1, 1)]))
        self.assertEqual(web_rows(web), ROWS)

    def test_by_names(self):
        self.assertEqual(web_rows(web=read_web(rows=ROWS)), ROWS)


class TestHandedIn(unittest.TestCase):

    def test_rows_changed_behind(self):
        rows = list(ROWS)
        web = read_web(rows)
        self.assertEqual(rows, ROWS)
        rows[1] = "held 0 5"
        rows.pop()
        self.assertEqual(web_rows(web), ROWS)

    def test_told_rows_changed_behind(self):
        web = read_web(ROWS)
        rows = web_rows(web)
        rows.clear()
        self.assertEqual(web_rows(web), ROWS)

    def test_web_is_left_as_it_is(self):
        web = read_web(ROWS)
        web_rows(web)
        self.assertEqual(web, read_web(ROWS))
        self.assertEqual(list(web.held()), [0, 3])


class TestBadRows(Refusing):

    def assert_bad(self, at, rows):
        """Refused with this row, handed in as a list and as a tuple."""
        with self.subTest(rows=rows):
            self.assert_refused(BadRow(at), read_web, list(rows))
            self.assert_refused(BadRow(at), read_web, tuple(rows))

    def exchange(self, at, row):
        return ROWS[:at] + [row] + ROWS[at + 1:]

    def assert_bad_exchanged(self, at, row):
        self.assert_bad(at + 1, self.exchange(at, row))

    def test_no_rows(self):
        self.assert_bad(1, [])

    def test_empty_row(self):
        for at in range(len(ROWS)):
            for row in ("", " ", "  "):
                self.assert_bad_exchanged(at, row)
        self.assert_bad(7, ROWS + [""])
        self.assert_bad(1, [""])

    def test_part_left_out(self):
        for at, row in enumerate(ROWS):
            parts = parted(row)
            for k in range(len(parts)):
                self.assert_bad_exchanged(at, " ".join(parts[:k] + parts[k + 1:]))

    def test_one_part_more(self):
        for at, row in enumerate(ROWS):
            parts = parted(row)
            for k in range(len(parts) + 1):
                for more in ("0", "1", "x", "-1", "rods", "held", "bar", ";"):
                    self.assert_bad_exchanged(
                        at, " ".join(parts[:k] + [more] + parts[k:]))

    def test_no_numbers(self):
        for at, row in enumerate(ROWS):
            parts = parted(row)
            for k in range(1, len(parts)):
                is_height = parts[0] == "held" and k == 2
                for number in NO_NUMBERS + ([] if is_height else ["-1", "-9999999"]):
                    self.assert_bad_exchanged(
                        at, " ".join(parts[:k] + [number] + parts[k + 1:]))

    def test_figures_at_their_edges(self):
        for at, row in enumerate(ROWS):
            parts = parted(row)
            for k in range(1, len(parts)):
                if (at, k) == (1, 1):
                    # A greater rod here would leave the next one not rising.
                    continue
                for number in ("9999999", "1000000", "1000001"):
                    rows = self.exchange(
                        at, " ".join(parts[:k] + [number] + parts[k + 1:]))
                    error = refusal_of(read_web, rows)
                    with self.subTest(rows=rows):
                        self.assertNotIsInstance(error, BadRow)

    def test_figures_at_their_edges_are_read(self):
        for at, row, wanted in (
                (0, "rods 9999999", BadCount("rods", 9999999)),
                (0, "rods 0", BadCount("rods", 0)),
                (1, "held 0 9999999", BadCount("height", 9999999)),
                (1, "held 0 -9999999", BadCount("height", -9999999)),
                (2, "held 9999999 0", NoRod(9999999)),
                (3, "bar 9999999 3 1 10 2 8", NoRod(9999999)),
                (3, "bar 0 3 1 9999999 2 8", BadCount("length", 9999999)),
                (3, "bar 0 3 1 10 0 9999999", BadSpan(0))):
            with self.subTest(row=row):
                self.assert_refused(wanted, read_web, self.exchange(at, row))

    def test_other_words(self):
        for at, row in enumerate(ROWS):
            word, rest = row.split(" ", 1)
            for other in ("rod", "Rods", "RODS", "rodss", "hold", "Held", "helds",
                          "bars", "Bar", "ba", "b", "web", "x", "0", ";", "-"):
                self.assert_bad_exchanged(at, other + " " + rest)
            for other in ("rods", "held", "bar"):
                if other != word:
                    self.assert_bad_exchanged(at, other + " " + rest)
            self.assert_bad_exchanged(at, word)
            self.assert_bad_exchanged(at, rest)

    def test_blanks(self):
        for at, row in enumerate(ROWS):
            self.assert_bad_exchanged(at, " " + row)
            self.assert_bad_exchanged(at, row + " ")
            self.assert_bad_exchanged(at, " " + row + " ")
            for k, sign in enumerate(row):
                if sign == " ":
                    self.assert_bad_exchanged(at, row[:k] + " " + row[k:])
                    self.assert_bad_exchanged(at, row[:k] + row[k + 1:])
                    self.assert_bad_exchanged(at, row[:k] + "," + row[k + 1:])

    def test_rods_missing(self):
        self.assert_bad(1, ROWS[1:])
        self.assert_bad(1, ROWS[3:])
        self.assert_bad(1, ["held 0 0"])
        self.assert_bad(1, ["bar 0 3 1 10 2 8"])

    def test_rods_twice(self):
        for at in range(1, len(ROWS) + 1):
            self.assert_bad(at + 1, ROWS[:at] + ["rods 5"] + ROWS[at:])
            self.assert_bad(at + 1, ROWS[:at] + ["rods 4"] + ROWS[at:])

    def test_rods_late(self):
        for at in range(1, len(ROWS)):
            self.assert_bad(1, ROWS[1:at + 1] + ["rods 5"] + ROWS[at + 1:])

    def test_held_not_rising(self):
        self.assert_bad(3, ["rods 5", "held 3 -12", "held 0 0"] + ROWS[3:])
        self.assert_bad(3, ["rods 5", "held 3 0", "held 3 0"] + ROWS[3:])
        self.assert_bad(3, ["rods 5", "held 3 0", "held 3 1"] + ROWS[3:])
        self.assert_bad(3, ["rods 5", "held 0 5", "held 0 6"] + ROWS[3:])
        self.assert_bad(4, ["rods 5", "held 0 0", "held 2 1", "held 1 1"] + ROWS[3:])
        self.assert_bad(4, ["rods 5", "held 0 0", "held 2 1", "held 0 0"] + ROWS[3:])
        self.assert_bad(4, ["rods 5", "held 1 0", "held 3 1", "held 2 9"] + ROWS[3:])

    def test_held_rising_by_number_not_by_text(self):
        rows = ["rods 10"] + [f"held {rod} 0" for rod in range(9)] + ["held 10 0"]
        self.assert_refused(NoRod(10), read_web, rows + ["bar 0 1 9 4 1 2"])

    def test_held_behind_a_bar(self):
        for at in (4, 5, 6):
            self.assert_bad(at + 1, ROWS[:at] + ["held 4 1"] + ROWS[at:])
            self.assert_bad(at, ROWS[:2] + ROWS[3:at] + ["held 3 -12"] + ROWS[at:])

    def test_first_of_two_rows_amiss(self):
        amiss = [["rods", "rods 05", "held 0 0"],
                 ["held 0", "held -1 0", "rods 5", "held 0 -0"],
                 ["held 3 -12 ", "held 0 0", "rods 5", "held 3 12345678"],
                 ["bar 0 3 1 10 2", "rods 5", "bar 0 3 1 10 2 -8"],
                 ["bar  0 3 1 10 2 8", "held 4 0", ""],
                 ["bar 2 3 4 1 1 1 1", "rods 5", "held 4 0"]]
        for first, later in itertools.combinations(range(len(ROWS)), 2):
            for one, other in itertools.product(amiss[first], amiss[later]):
                rows = list(ROWS)
                rows[first], rows[later] = one, other
                self.assert_bad(first + 1, rows)

    def test_rows_are_looked_at_ahead_of_the_web(self):
        self.assert_bad(6, ["rods 2"] + ROWS[1:5] + ["bar"])
        self.assert_bad(6, self.exchange(0, "rods 99")[:5] + ["rods 5"])
        self.assert_bad(5, ["rods 5", "held 0 9999999", "held 7 0",
                            "bar 9 9 9 0 5 2", "held 8 0"])

    def test_refused_alike_again(self):
        rows = self.exchange(2, "held 0 0")
        kept = list(rows)
        for _ in range(2):
            self.assert_refused(BadRow(3), read_web, rows)
        self.assertEqual(rows, kept)


class TestNoWebs(Refusing):
    """Rows that are well written and no web: as Web refuses."""

    HELD = ["held 0 0", "held 1 10"]
    BAR = "bar 0 1 2 10 2 8"

    def test_rods(self):
        for many in (0, 1, 2, 11, 1000000):
            self.assert_refused(BadCount("rods", many), read_web,
                                [f"rods {many}"] + self.HELD + [self.BAR])

    def test_nothing_behind_rods(self):
        self.assert_refused(BadCount("held", 0), read_web, ["rods 3"])
        self.assert_refused(BadCount("rods", 2), read_web, ["rods 2"])

    def test_held(self):
        self.assert_refused(BadCount("held", 0), read_web, ["rods 3", self.BAR])
        self.assert_refused(NoRod(3), read_web,
                            ["rods 3", "held 0 0", "held 3 0", "held 4 0", self.BAR])
        self.assert_refused(BadCount("height", 1000001), read_web,
                            ["rods 3", "held 0 1000001", "held 1 0", self.BAR])
        self.assert_refused(BadCount("height", -1000001), read_web,
                            ["rods 3", "held 0 0", "held 1 -1000001", self.BAR])

    def test_bars(self):
        self.assert_refused(BadCount("bars", 0), read_web, ["rods 3"] + self.HELD)
        self.assert_refused(BadCount("bars", 9), read_web,
                            ["rods 3"] + self.HELD + [self.BAR] * 9)
        self.assert_refused(NotSquare(2, 1), read_web,
                            ["rods 3"] + self.HELD + [self.BAR] * 2)
        self.assert_refused(NotSquare(1, 2), read_web,
                            ["rods 4"] + self.HELD + [self.BAR])

    def test_bar_amiss(self):
        for row, wanted in (("bar 3 1 2 10 2 8", NoRod(3)),
                            ("bar 0 4 2 10 2 8", NoRod(4)),
                            ("bar 0 1 5 10 2 8", NoRod(5)),
                            ("bar 1 1 2 10 2 8", SameRod(1)),
                            ("bar 0 1 0 10 2 8", SameRod(0)),
                            ("bar 0 1 2 0 0 0", BadCount("length", 0)),
                            ("bar 0 1 2 1000001 2 8", BadCount("length", 1000001)),
                            ("bar 0 1 2 10 8 2", BadSpan(0)),
                            ("bar 0 1 2 10 2 11", BadSpan(0))):
            with self.subTest(row=row):
                self.assert_refused(wanted, read_web, ["rods 3"] + self.HELD + [row])

    def test_second_bar_amiss(self):
        self.assert_refused(BadSpan(1), read_web,
                            ["rods 4"] + self.HELD + [self.BAR, "bar 0 1 3 10 9 8"])


def fraction_words(number):
    """The text of a Fraction, by Python's own."""
    return str(Fraction(number))


class TestFractionText(unittest.TestCase):

    def test_written_out(self):
        for fraction, wanted in (((0, 1), "0"), ((1, 1), "1"), ((-1, 1), "-1"),
                                 ((12, 1), "12"), ((-300, 1), "-300"),
                                 ((1, 2), "1/2"), ((-1, 2), "-1/2"),
                                 ((7, 3), "7/3"), ((-22, 7), "-22/7"),
                                 ((1, 10), "1/10"), ((10, 11), "10/11"),
                                 ((10 ** 20 + 1, 10), f"{10 ** 20 + 1}/10"),
                                 ((-1, 10 ** 20), f"-1/{10 ** 20}"),
                                 ((10 ** 9, 1), "1000000000")):
            with self.subTest(fraction=fraction):
                self.assertEqual(fraction_text(fraction), wanted)
                self.assertEqual(fraction_text(list(fraction)), wanted)
                self.assertEqual(fraction_text(fraction=fraction), wanted)

    def test_many(self):
        for top in range(-12, 13):
            for bottom in range(1, 9):
                number = Fraction(top, bottom)
                self.assertEqual(
                    fraction_text((number.numerator, number.denominator)),
                    fraction_words(number))

    def test_list_is_left_as_it_is(self):
        handed = [-3, 4]
        self.assertEqual(fraction_text(handed), "-3/4")
        self.assertEqual(handed, [-3, 4])


class TestPlacesText(unittest.TestCase):

    def test_written_out(self):
        for numbers, parts, wanted in (
                ([], 1, ""), ([], 5, ""), ([0], 3, "0"), ([0, 0], 1, "0 0"),
                ([3], 1, "3"), ([3], 2, "3/2"), ([4, 3], 2, "2 3/2"),
                ([1, 2, 3, 4, 6], 12, "1/12 1/6 1/4 1/3 1/2"),
                ([-1, 0, 1], 3, "-1/3 0 1/3"), ([-6, -3], 6, "-1 -1/2"),
                ([5, 10, 7], 5, "1 2 7/5"), ([2, 4], 2, "1 2"),
                ([10 ** 12, 1], 10 ** 6, f"{10 ** 6} 1/{10 ** 6}")):
            with self.subTest(numbers=numbers, parts=parts):
                places = Places(numbers, parts)
                self.assertEqual(places_text(places), wanted)
                self.assertEqual(places_text(places=places), wanted)
                self.assertEqual(places_text(Places(tuple(numbers), parts)), wanted)

    def test_many(self):
        chance = random.Random(163)
        for _ in range(200):
            parts = chance.randrange(1, 30)
            numbers = [chance.randrange(-40, 90) for _ in range(chance.randrange(9))]
            self.assertEqual(
                places_text(Places(numbers, parts)),
                " ".join(fraction_words(Fraction(number, parts))
                         for number in numbers))

    def test_places_are_left_as_they_are(self):
        places = Places([4, 3], 2)
        places_text(places)
        self.assertEqual((places.numbers, places.parts), ((4, 3), 2))


if __name__ == "__main__":
    unittest.main()
