"""The book of webs and claims (point 15)."""

import itertools
import random
import unittest
from fractions import Fraction

from hookspans.book import Book
from hookspans.errors import (BadCount, BadSpan, HooksError, Loose, NoBack, NoBar,
                              NoName, NoWeb)
from hookspans.webs import Bar, Web

from tests.exact import (Row, corner_numbers, heights_of, is_firm_web, made, told)
from tests.making import Refusing, beam, fan, ring

NAMES = ["a", "z", "q7", "a0", "z9", "web", "abcdefgh", "a1234567", "zzzzzzzz",
         "z9999999", "a0b1c2d3"]
NO_NAMES = ["", "abcdefghi", "a12345678", "zzzzzzzzzzzzzzzzz", "A", "Z", "aB", "aZ",
            "Web", "weB", "0", "9", "1a", "0abc", "12345678", " ", "a b", " a", "a ",
            "a-b", "-a", "a_b", "_a", "_", "a.", "a;", ";", "a/", "a:", "a`", "`",
            "a{", "{", "a@", "@", "a~", "!", "a[", "a,b", "a'", "a\""]


def single(least=2, greatest=8):
    """A web of one bar: its rod 2 is as high as the hook's place."""
    return fan([(least, greatest)])


def facts(book):
    """All that a book tells, each web by its fields."""
    webs = []
    for name in book.names():
        web = book.web(name)
        webs.append((name, web.rods, web.held(), [vars(bar) for bar in web.bars]))
    return (webs, book.claims(), book.broken(), book.many())


def filled():
    """A book with two webs and a claim of each."""
    book = Book()
    book.keep("one", single())
    book.keep("two", fan([(2, 8), (3, 4)]))
    book.claim("one", [0, 0, 1], (2, 1))
    book.claim("two", [0, 0, 1, -1], (-2, 1))
    return book


class Booking(Refusing):

    def assert_refused_unchanged(self, wanted, book, call, *row, **named):
        """Refused twice, and the book is as it was."""
        before = facts(book)
        for _ in range(2):
            self.assert_refused(wanted, call, *row, **named)
            self.assertEqual(facts(book), before)


class TestNames(Booking):

    def test_right_ones(self):
        for name in NAMES:
            book = Book()
            with self.subTest(name=name):
                self.assertIsNone(book.keep(name, single()))
                self.assertEqual(book.names(), [name])
                self.assertEqual(book.web(name), single())

    def test_wrong_ones(self):
        for name in NO_NAMES:
            with self.subTest(name=name):
                for book in (Book(), filled()):
                    self.assert_refused_unchanged(NoName(name), book, book.keep,
                                                  name, single())

    def test_each_sign(self):
        letters = "abcdefghijklmnopqrstuvwxyz"
        figures = "0123456789"
        for code in range(32, 127):
            sign = chr(code)
            with self.subTest(sign=sign):
                for name, right in ((sign, sign in letters),
                                    ("a" + sign, sign in letters + figures),
                                    ("a" + sign + "b", sign in letters + figures)):
                    book = Book()
                    if right:
                        book.keep(name, single())
                        self.assertEqual(book.names(), [name])
                    else:
                        self.assert_refused(NoName(name), book.keep, name, single())

    def test_sorted(self):
        for names in itertools.permutations(["b", "a1", "ab", "a"]):
            book = Book()
            for name in names:
                book.keep(name, single())
            self.assertEqual(book.names(), ["a", "a1", "ab", "b"])


class TestEmpty(Booking):

    def test_of_nothing(self):
        book = Book()
        self.assertEqual(facts(book), ([], [], [], 0))
        self.assert_refused_unchanged(NoBack(), book, book.back)
        for name in ("a", "", "A", "no name"):
            for call, row in ((book.drop, ()), (book.web, ()),
                              (book.span, (0, 0, 1)), (book.claim, ([], (0, 1)))):
                self.assert_refused_unchanged(NoWeb(name), book, call, name, *row)


class TestKeep(Booking):

    def test_ninth(self):
        book = Book()
        for k in range(8):
            book.keep(f"w{k}", single(k, 9))
        self.assertEqual(len(book.names()), 8)
        self.assert_refused_unchanged(BadCount("webs", 9), book, book.keep,
                                      "w8", single())
        # A wrong name is told first.
        self.assert_refused_unchanged(NoName("W8"), book, book.keep,
                                      "W8", single())
        self.assertEqual(book.many(), 8)

    def test_one_of_eight_kept_anew(self):
        book = Book()
        for k in range(8):
            book.keep(f"w{k}", single(k, 9))
        book.keep("w3", single(1, 1))
        self.assertEqual(book.web("w3"), single(1, 1))
        book.keep("w3", single(1, 1))
        self.assertEqual(book.many(), 9)
        book.drop("w5")
        book.keep("other", single())
        self.assert_refused_unchanged(BadCount("webs", 9), book, book.keep,
                                      "w5", single())
        book.back()
        book.keep("w5", single())
        self.assertEqual(book.names(), [f"w{k}" for k in range(8)])

    def test_kept_as_it_is(self):
        book = Book()
        web = single()
        book.keep("a", web)
        before = facts(book)
        for same in (web, single(), Web(3, {1: 10, 0: 0}, (Bar(0, 1, 2, 10, 2, 8),))):
            book.keep("a", same)
            self.assertEqual(facts(book), before)
        book.back()
        self.assertEqual(facts(book), ([], [], [], 0))

    def test_kept_anew(self):
        others = [Web(3, {0: 1, 1: 10}, [Bar(0, 1, 2, 10, 2, 8)]),
                  Web(3, {0: 0, 1: 10}, [Bar(0, 1, 2, 10, 2, 9)]),
                  Web(3, {0: 0, 1: 10}, [Bar(0, 1, 2, 10, 1, 8)]),
                  Web(3, {0: 0, 1: 10}, [Bar(1, 0, 2, 10, 2, 8)]),
                  Web(3, {0: 0, 2: 10}, [Bar(0, 1, 2, 10, 2, 8)]),
                  Web(3, {0: 0, 1: 10}, [Bar(0, 1, 2, 11, 2, 8)]),
                  Web(4, {0: 0, 1: 10, 3: 0}, [Bar(0, 1, 2, 10, 2, 8)])]
        for other in others:
            book = Book()
            book.keep("a", single())
            book.keep("a", other)
            self.assertEqual((book.web("a"), book.many()), (other, 2))
            book.back()
            self.assertEqual((book.web("a"), book.many()), (single(), 1))

    def test_one_web_by_two_names(self):
        book = Book()
        web = single()
        book.keep("a", web)
        book.keep("b", web)
        self.assertEqual(book.many(), 2)
        book.span("a", 0, 1, 1)
        self.assertEqual((book.web("a"), book.web("b")), (single(1, 1), single()))
        book.drop("a")
        self.assertEqual(book.names(), ["b"])

    def test_nothing_is_told(self):
        book = Book()
        self.assertIsNone(book.keep("a", single()))
        self.assertIsNone(book.keep("a", single()))
        self.assertIsNone(book.span("a", 0, 1, 2))
        self.assertIsNone(book.drop("a"))
        self.assertIsNone(book.back())


class TestDrop(Booking):

    def test_drop(self):
        book = filled()
        book.drop("one")
        self.assertEqual(book.names(), ["two"])
        self.assertEqual(book.many(), 5)
        for call, row in ((book.drop, ()), (book.web, ()), (book.span, (0, 1, 2)),
                          (book.claim, ([0, 0, 1], (0, 1)))):
            self.assert_refused_unchanged(NoWeb("one"), book, call, "one", *row)

    def test_no_web(self):
        book = filled()
        for name in ("three", "", "One", "on", "ones", "o ne"):
            self.assert_refused_unchanged(NoWeb(name), book, book.drop, name)
            self.assert_refused_unchanged(NoWeb(name), book, book.web, name)

    def test_its_claims_go(self):
        book = filled()
        book.claim("one", [1, 0, 0], (5, 1))
        book.drop("one")
        self.assertEqual(book.claims(), [("two", (0, 0, 1, -1), (-2, 1))])
        self.assertEqual(book.broken(), [])
        book.keep("one", single())
        self.assertEqual(book.claims(), [("two", (0, 0, 1, -1), (-2, 1))])
        book.claim("one", [0, 0, 1], (2, 1))
        self.assertEqual([claim[0] for claim in book.claims()], ["two", "one"])


class TestSpan(Booking):

    def test_span(self):
        book = filled()
        handed = book.web("two")
        book.span("two", 1, 0, 10)
        self.assertEqual(book.web("two"), fan([(2, 8), (0, 10)]))
        book.span("two", 0, 5, 5)
        self.assertEqual(book.web("two"), fan([(5, 5), (0, 10)]))
        self.assertEqual(handed, fan([(2, 8), (3, 4)]))
        self.assertEqual(book.web("one"), single())
        self.assertEqual(book.many(), 6)

    def test_all_but_the_span_stays(self):
        web = Web(5, {4: -7, 2: 9}, [Bar(4, 2, 0, 7, 1, 2), Bar(0, 4, 1, 5, 0, 3),
                                     Bar(1, 2, 3, 9, 4, 8)])
        book = Book()
        book.keep("a", web)
        book.span("a", 1, 2, 5)
        self.assertEqual(book.web("a"), Web(5, {4: -7, 2: 9}, [
            Bar(4, 2, 0, 7, 1, 2), Bar(0, 4, 1, 5, 2, 5), Bar(1, 2, 3, 9, 4, 8)]))

    def test_a_span_that_it_has(self):
        book = filled()
        before = facts(book)
        book.span("two", 0, 2, 8)
        book.span("two", 1, 3, 4)
        book.span("one", 0, 2, 8)
        self.assertEqual(facts(book), before)

    def test_one_end_is_another(self):
        for least, greatest in ((2, 9), (1, 8), (2, 2), (8, 8), (0, 10)):
            book = Book()
            book.keep("a", single())
            book.span("a", 0, least, greatest)
            self.assertEqual(book.many(), 2)
            self.assertEqual(book.web("a"), single(least, greatest))
            book.span("a", 0, 2, 8)
            self.assertEqual((book.many(), book.web("a")), (3, single()))

    def test_refused(self):
        book = filled()
        for bar in (-1, 2, 3, 100):
            self.assert_refused_unchanged(NoBar(bar), book, book.span, "two", bar, 1, 2)
        self.assert_refused_unchanged(NoBar(1), book, book.span, "one", 1, 1, 2)
        for bar in (0, 1):
            for least, greatest in ((-1, 3), (3, 2), (5, 11), (11, 11), (-2, -1),
                                    (10, 0), (11, 3), (0, 10 ** 9)):
                self.assert_refused_unchanged(BadSpan(bar), book, book.span,
                                              "two", bar, least, greatest)

    def test_two_at_once(self):
        book = filled()
        self.assert_refused_unchanged(NoWeb("no"), book, book.span, "no", 5, 1, 2)
        self.assert_refused_unchanged(NoWeb("no"), book, book.span, "no", 0, 3, 2)
        self.assert_refused_unchanged(NoWeb("No"), book, book.span, "No", -1, 3, 2)
        self.assert_refused_unchanged(NoBar(2), book, book.span, "two", 2, 3, 2)
        self.assert_refused_unchanged(NoBar(-1), book, book.span, "two", -1, 0, 99)

    def test_its_claims_stay(self):
        book = filled()
        before = book.claims()
        book.span("one", 0, 1, 8)
        self.assertEqual(book.claims(), before)
        self.assertEqual(book.broken(), [("one", (0, 0, 1), (2, 1))])
        book.span("one", 0, 3, 8)
        self.assertEqual(book.claims(), before)
        self.assertEqual(book.broken(), [])


class TestClaim(Booking):

    def test_whether_it_is_so(self):
        # Rod 2 stands from 2 to 8, at each height between.
        for weights, least, wanted in (([0, 0, 1], (2, 1), True),
                                       ([0, 0, 1], (3, 2), True),
                                       ([0, 0, 1], (-5, 1), True),
                                       ([0, 0, 1], (5, 2), False),
                                       ([0, 0, 1], (2001, 1000), False),
                                       ([0, 0, 1], (8, 1), False),
                                       ([0, 0, -1], (-8, 1), True),
                                       ([0, 0, -1], (-79, 10), False),
                                       ([0, 0, -1], (-81, 10), True),
                                       ([0, 1, -1], (2, 1), True),
                                       ([0, 1, -1], (3, 1), False),
                                       ([0, 0, 0], (0, 1), True),
                                       ([0, 0, 0], (1, 9), False),
                                       ([0, 0, 0], (-1, 9), True)):
            with self.subTest(weights=weights, least=least):
                book = Book()
                book.keep("a", single())
                self.assertIs(book.claim("a", weights, least), wanted)
                # A claim is kept, so or not.
                claim = ("a", tuple(weights), least)
                self.assertEqual(book.claims(), [claim])
                self.assertEqual(book.broken(), [] if wanted else [claim])
                self.assertEqual(book.many(), 2)
                # And told alike again, and kept once.
                self.assertIs(book.claim("a", weights, least), wanted)
                self.assertEqual(book.claims(), [claim])
                self.assertEqual(book.many(), 2)

    def test_fractions_of_a_ring(self):
        book = Book()
        book.keep("a", ring((1, 2), (1, 1)))
        # Rod 3 stands from 2/3 at (1, 1) to 1 at (2, 1).
        self.assertIs(book.claim("a", [0, 0, 0, 1], (2, 3)), True)
        self.assertIs(book.claim("a", [0, 0, 0, 1], (667, 1000)), False)
        self.assertIs(book.claim("a", [0, 0, 0, 3], (2, 1)), True)
        self.assertIs(book.claim("a", [0, 0, 0, -1], (-1, 1)), True)

    def test_in_the_order_of_claiming_each_once(self):
        book = filled()
        book.claim("one", (0, 0, 1), (3, 1))
        book.claim("one", (0, 0, 1), (2, 1))
        book.claim("two", (0, 0, 1, -1), (-2, 1))
        book.claim("one", (0, 0, 2), (2, 1))
        book.claim("one", (0, 0, 1), (3, 1))
        self.assertEqual(book.claims(), [
            ("one", (0, 0, 1), (2, 1)), ("two", (0, 0, 1, -1), (-2, 1)),
            ("one", (0, 0, 1), (3, 1)), ("one", (0, 0, 2), (2, 1))])
        self.assertEqual(book.broken(), [("one", (0, 0, 1), (3, 1))])
        self.assertEqual(book.many(), 6)

    def test_alike_but_for_the_name(self):
        book = Book()
        book.keep("a", single())
        book.keep("b", single(1, 1))
        self.assertIs(book.claim("b", [0, 0, 1], (2, 1)), False)
        self.assertIs(book.claim("a", [0, 0, 1], (2, 1)), True)
        self.assertEqual([claim[0] for claim in book.claims()], ["b", "a"])
        self.assertEqual(book.broken(), [("b", (0, 0, 1), (2, 1))])

    def test_list_or_tuple(self):
        for weights in ([0, 0, 1], (0, 0, 1)):
            for least in ([5, 2], (5, 2)):
                book = Book()
                book.keep("a", single())
                book.claim("a", weights, least)
                book.claim("a", tuple(weights), list(least))
                book.claim("a", list(weights), tuple(least))
                self.assertEqual(book.claims(), [("a", (0, 0, 1), (5, 2))])
                self.assertEqual(book.broken(), [("a", (0, 0, 1), (5, 2))])
                for told_list in (book.claims(), book.broken()):
                    claim = told_list[0]
                    self.assertEqual([type(part) for part in (claim, *claim)],
                                     [tuple, str, tuple, tuple])

    def test_lists_changed_behind(self):
        book = Book()
        book.keep("a", single())
        weights, least = [0, 0, 1], [2, 1]
        book.claim("a", weights, least)
        self.assertEqual((weights, least), ([0, 0, 1], [2, 1]))
        weights[2] = -1
        least[0] = 9
        self.assertEqual(book.claims(), [("a", (0, 0, 1), (2, 1))])
        self.assertEqual(book.broken(), [])
        book.claim("a", weights, least)
        self.assertEqual(len(book.claims()), 2)

    def test_refused(self):
        book = filled()
        for many in (0, 1, 2, 4, 9):
            self.assert_refused_unchanged(BadCount("weights", many), book, book.claim,
                                          "one", [1] * many, (0, 1))
        self.assert_refused_unchanged(NoWeb("no"), book, book.claim,
                                      "no", [0, 0, 1], (0, 1))
        self.assert_refused_unchanged(NoWeb("no"), book, book.claim, "no", [], (0, 1))
        book.keep("loose", beam((0, 3), (1, 4)))
        self.assert_refused_unchanged(Loose(), book, book.claim,
                                      "loose", [0, 0, 0, 1], (0, 1))
        self.assert_refused_unchanged(BadCount("weights", 3), book, book.claim,
                                      "loose", [0, 0, 1], (0, 1))

    def test_loose_and_firm_again(self):
        book = Book()
        book.keep("a", beam((0, 1), (2, 4)))
        book.keep("b", single())
        # Rods 0 and 1 are held: what is claimed of them hangs on nothing.
        self.assertIs(book.claim("a", [0, 1, 0, 0], (12, 1)), True)
        self.assertIs(book.claim("b", [0, 0, 1], (2, 1)), True)
        self.assertIs(book.claim("a", [0, 0, 0, 0], (1, 1)), False)
        self.assertIs(book.claim("a", [0, 1, 0, 0], (11, 1)), True)
        claims = book.claims()
        of_a = [claim for claim in claims if claim[0] == "a"]
        book.span("a", 0, 0, 2)
        self.assertEqual(book.claims(), claims)
        self.assertEqual(book.broken(), of_a)
        for least in ((5, 1), (12, 1)):
            # Of a claim that stands, too.
            self.assert_refused_unchanged(Loose(), book, book.claim,
                                          "a", [0, 1, 0, 0], least)
        book.span("a", 1, 3, 4)
        self.assertEqual(book.broken(), [of_a[1]])
        book.back()
        self.assertEqual(book.broken(), of_a)
        book.back()
        self.assertEqual(book.broken(), [of_a[1]])
        self.assertEqual(book.claims(), claims)

    def test_loose_just_inside_is_loose(self):
        book = Book()
        # At x = y = 2 the web is loose, strictly inside it is not.
        book.keep("a", beam((0, 2), (2, 4)))
        self.assert_refused_unchanged(Loose(), book, book.claim,
                                      "a", [0, 0, 0, 0], (0, 1))


class TestKeptAnew(Booking):

    def kept(self):
        book = filled()
        book.claim("one", [0, 0, -1], (-8, 1))
        return book

    def test_with_as_many_rods(self):
        book = self.kept()
        claims = book.claims()
        book.keep("one", single(1, 8))
        self.assertEqual(book.claims(), claims)
        self.assertEqual(book.broken(), [claims[0]])
        book.keep("one", single(1, 9))
        self.assertEqual(book.claims(), claims)
        self.assertEqual(book.broken(), [claims[0], claims[2]])
        book.keep("one", Web(3, {2: 5}, [Bar(0, 2, 1, 4, 2, 2),
                                         Bar(1, 2, 0, 4, 2, 2)]))
        self.assertEqual(book.claims(), claims)
        self.assertEqual(book.broken(), [])

    def test_with_another_number_of_rods(self):
        for rods in (4, 10):
            book = self.kept()
            held = {rod: 0 for rod in range(rods) if rod != 2}
            book.keep("one", Web(rods, held, [Bar(0, 1, 2, 10, 2, 8)]))
            self.assertEqual(book.claims(), [("two", (0, 0, 1, -1), (-2, 1))])
            self.assertEqual(book.broken(), [])
            self.assertEqual(book.many(), 6)
            # They do not come back with the rods, but with back() alone.
            book.keep("one", single())
            self.assertEqual(book.claims(), [("two", (0, 0, 1, -1), (-2, 1))])
            book.back()
            book.back()
            self.assertEqual(facts(book), facts(self.kept()))

    def test_as_many_bars_is_not_as_many_rods(self):
        book = self.kept()
        book.keep("two", Web(5, {0: 0, 1: 9, 4: 3}, [Bar(0, 1, 2, 10, 2, 8),
                                                     Bar(0, 1, 3, 10, 3, 4)]))
        self.assertEqual([claim[0] for claim in book.claims()], ["one", "one"])


class TestBack(Booking):

    def test_each_kind(self):
        steps = [lambda book: book.keep("three", single()),
                 lambda book: book.keep("one", single(1, 1)),
                 lambda book: book.keep("one", fan([(1, 2), (3, 4)])),
                 lambda book: book.drop("one"),
                 lambda book: book.drop("two"),
                 lambda book: book.span("two", 1, 0, 0),
                 lambda book: book.span("one", 0, 0, 10),
                 lambda book: book.claim("one", [0, 1, 1], (5, 3)),
                 lambda book: book.claim("two", [0, 1, 1, 1], (-5, 3))]
        for step in steps:
            book = filled()
            before = facts(book)
            step(book)
            self.assertNotEqual(facts(book), before)
            self.assertEqual(book.many(), 5)
            self.assertIsNone(book.back())
            self.assertEqual(facts(book), before)

    def test_pairs_and_on_again(self):
        steps = [lambda book: book.keep("one", fan([(1, 2), (3, 4)])),
                 lambda book: book.drop("two"),
                 lambda book: book.span("one", 0, 0, 10),
                 lambda book: book.claim("one", [0, 1, 1, 2][:book.web("one").rods],
                                         (5, 3)),
                 lambda book: book.keep("new", single())]
        for row in itertools.permutations(steps, 3):
            book = filled()
            seen = [facts(book)]
            for step in row:
                step(book)
                seen.append(facts(book))
            for _ in range(2):
                for wanted in seen[-2:0:-1]:
                    book.back()
                    self.assertEqual(facts(book), wanted)
                for step, wanted in zip(row[1:], seen[2:]):
                    step(book)
                    self.assertEqual(facts(book), wanted)

    def test_claims_in_their_old_order(self):
        book = Book()
        book.keep("a", single())
        book.keep("b", single())
        for least in range(6):
            book.claim("ab"[least % 2], [0, 0, 1], (least, 1))
        claims = book.claims()
        self.assertEqual([claim[2][0] for claim in claims], list(range(6)))
        book.drop("a")
        book.claim("b", [0, 0, 1], (9, 1))
        book.drop("b")
        self.assertEqual(book.claims(), [])
        book.back()
        book.back()
        self.assertEqual(book.claims(), claims[1::2])
        book.back()
        self.assertEqual(book.claims(), claims)
        self.assertEqual(book.broken(), claims[3:])

    def test_down_to_no_back(self):
        book = filled()
        for many in (4, 3, 2, 1):
            self.assertEqual(book.many(), many)
            book.back()
        self.assertEqual(facts(book), ([], [], [], 0))
        self.assert_refused_unchanged(NoBack(), book, book.back)
        book.keep("a", single())
        self.assertEqual(book.many(), 1)
        book.back()
        self.assert_refused_unchanged(NoBack(), book, book.back)

    def test_a_long_row_of_claims(self):
        book = Book()
        book.keep("a", single())
        for least in range(1500):
            book.claim("a", [0, 0, 1], (least, 1))
        self.assertEqual(book.many(), 1501)
        book.drop("a")
        self.assertEqual((book.claims(), book.many()), ([], 1502))
        book.back()
        for least in range(1499, -1, -1):
            if least % 100 == 0:
                self.assertEqual([claim[2] for claim in book.claims()],
                                 [(k, 1) for k in range(least + 1)])
            book.back()
        self.assertEqual((book.claims(), book.many()), ([], 1))

    def test_what_changed_nothing_is_not_taken_back(self):
        book = Book()
        book.keep("a", single())
        book.span("a", 0, 1, 2)
        book.span("a", 0, 1, 2)
        book.keep("a", single(1, 2))
        self.assertEqual(book.many(), 2)
        book.back()
        self.assertEqual(book.web("a"), single())

    def test_refused_is_not_taken_back(self):
        book = Book()
        book.keep("a", single())
        book.claim("a", [0, 0, 1], (5, 1))
        for call, row in ((book.keep, ("A", single())), (book.drop, ("b",)),
                          (book.span, ("a", 0, 3, 1)), (book.span, ("a", 1, 1, 3)),
                          (book.claim, ("a", [1], (0, 1)))):
            with self.assertRaises(HooksError):
                call(*row)
        self.assertEqual(book.many(), 2)
        book.back()
        self.assertEqual((book.claims(), book.names()), ([], ["a"]))


class TestApart(Booking):

    def test_two_books_that_keep_one_web(self):
        web = single()
        one, other = Book(), Book()
        one.keep("a", web)
        other.keep("a", web)
        one.claim("a", [0, 0, 1], (2, 1))
        one.span("a", 0, 1, 1)
        self.assertEqual((one.web("a"), other.web("a")), (single(1, 1), single()))
        self.assertEqual(other.claims(), [])
        self.assertEqual((one.many(), other.many()), (3, 1))
        self.assertEqual(web, single())
        other.drop("a")
        self.assertEqual(one.names(), ["a"])
        other.back()
        other.back()
        self.assertEqual(facts(other), ([], [], [], 0))
        self.assertEqual(one.broken(), [("a", (0, 0, 1), (2, 1))])

    def test_told_lists_changed_behind(self):
        book = filled()
        book.claim("one", [0, 0, 1], (3, 1))
        before = facts(book)
        for row in (book.names(), book.claims(), book.broken()):
            self.assertIs(type(row), list)
            row.append("more")
            row.pop(0)
            row.reverse()
            self.assertEqual(facts(book), before)
        book.web("one").held().clear()
        book.web("one").hanging().clear()
        self.assertEqual(facts(book), before)
        for call in (book.names, book.claims, book.broken):
            self.assertIsNot(call(), call())

    def test_lists_of_a_kept_web_changed_behind(self):
        held, bars = {0: 0, 1: 10}, [Bar(0, 1, 2, 10, 2, 8)]
        book = Book()
        book.keep("a", Web(3, held, bars))
        held[0] = 7
        bars.clear()
        self.assertEqual(book.web("a"), single())

    def test_asking_changes_nothing(self):
        book = filled()
        before = facts(book)
        for _ in range(3):
            self.assertEqual(facts(book), before)

    def test_by_names(self):
        book = Book()
        book.keep(web=single(), name="a")
        book.span(greatest=7, least=3, bar=0, name="a")
        self.assertEqual(book.web(name="a"), single(3, 7))
        self.assertIs(book.claim(least=(3, 1), weights=[0, 0, 1], name="a"), True)
        self.assertEqual(book.claims(), [("a", (0, 0, 1), (3, 1))])
        book.drop(name="a")
        self.assertEqual(book.names(), [])


class Model:
    """A book by the words of point 15, each state whole and by itself."""

    def __init__(self):
        self.webs, self.claims, self.past = {}, [], []

    def change(self, webs, claims):
        if (webs, claims) != (self.webs, self.claims):
            self.past.append((self.webs, self.claims))
            self.webs, self.claims = webs, claims

    def keep(self, name, web):
        known = self.webs.get(name, web)
        claims = [claim for claim in self.claims
                  if claim[0] != name or known.rods == web.rods]
        if name not in self.webs and len(self.webs) == 8:
            return "badcount"
        return self.change({**self.webs, name: web}, claims)

    def drop(self, name):
        if name not in self.webs:
            return "noweb"
        return self.change(
            {key: web for key, web in self.webs.items() if key != name},
            [claim for claim in self.claims if claim[0] != name])

    def span(self, name, bar, least, greatest):
        if name not in self.webs:
            return "noweb"
        web = self.webs[name]
        if not 0 <= bar < len(web.bars):
            return "nobar"
        if not 0 <= least <= greatest <= web.bars[bar].length:
            return "badspan"
        bars = [Bar(own.a, own.b, own.c, own.length,
                    *((least, greatest) if k == bar else (own.least, own.greatest)))
                for k, own in enumerate(web.bars)]
        web = Web(web.rods, web.held(), bars)
        return self.change({**self.webs, name: web}, self.claims)

    def claim(self, name, weights, least):
        if name not in self.webs:
            return "noweb"
        if len(weights) != self.webs[name].rods:
            return "badcount"
        if not is_firm_web(self.webs[name]):
            return "loose"
        claim = (name, tuple(weights), tuple(least))
        if claim not in self.claims:
            self.change(self.webs, self.claims + [claim])
        return self.is_so(*claim)

    def back(self):
        if not self.past:
            return "noback"
        self.webs, self.claims = self.past.pop()
        return None

    def is_so(self, name, weights, least):
        web = self.webs[name]
        return is_firm_web(web) and all(
            sum(weight * height for weight, height in zip(
                weights, heights_of(web, Row(row, 1)))) >= Fraction(*least)
            for row in corner_numbers(web))

    def facts(self):
        webs = [(name, web.rods, web.held(), [vars(bar) for bar in web.bars])
                for name, web in sorted(self.webs.items())]
        broken = [claim for claim in self.claims if not self.is_so(*claim)]
        return (webs, self.claims, broken, len(self.past))


def step_of(chance, model):
    """A call of any of the five kinds, with its arguments, at times amiss."""
    name = chance.choice(["a", "b", "c", "d4", "e", "f", "g", "h", "i"])
    if model.webs and chance.random() < 0.8:
        name = chance.choice(sorted(model.webs))
    web = model.webs.get(name)
    kind = chance.choice(["keep", "keep", "drop", "span", "span", "claim", "claim",
                          "claim", "claim", "back", "back"])
    if kind == "keep":
        other = made(chance, chance.choice((1, 1, 2)), 3, tame=chance.random() < 0.7)
        return kind, (name, chance.choice([web or other, other, other]))
    if kind == "drop":
        return kind, (name,)
    if kind == "back":
        return kind, ()
    if kind == "span":
        least = chance.randrange(-1, 4)
        return kind, (name, chance.choice([0, 0, 0, 1, 1, -1, 2]), least,
                      chance.randrange(least - 1, 5))
    many = web.rods if web and chance.random() < 0.9 else chance.randrange(6)
    least = told(Fraction(chance.randrange(-6, 5), chance.choice((1, 2))))
    weights = [chance.choice((0, 0, 1, -1)) for _ in range(many)]
    return kind, (name, weights, least)


class TestAgainstModel(unittest.TestCase):

    def outcome(self, book, kind, row):
        try:
            return getattr(book, kind)(*row)
        except HooksError as error:
            return error.told().split(" ")[1]

    def test_many_steps(self):
        seen = {}
        for seed in range(12):
            chance = random.Random(seed)
            book, model = Book(), Model()
            for _ in range(120):
                kind, row = step_of(chance, model)
                wanted = getattr(model, kind)(*row)
                got = self.outcome(book, kind, row)
                self.assertIs(type(got), type(wanted))
                self.assertEqual(got, wanted)
                self.assertEqual(facts(book), model.facts())
                seen[kind, wanted] = seen.get((kind, wanted), 0) + 1
            while model.past:
                model.back()
                book.back()
                self.assertEqual(facts(book), model.facts())
            self.assertEqual(self.outcome(book, "back", ()), "noback")
        for kind in ("keep", "drop", "span", "back"):
            self.assertGreater(seen[kind, None], 20)
        for outcome in (True, False, "loose", "noweb", "badcount"):
            self.assertGreater(seen["claim", outcome], 5)

    def test_same_steps_same_told(self):
        told_rows = []
        for _ in range(2):
            chance = random.Random(77)
            book, model = Book(), Model()
            rows = []
            for _ in range(80):
                kind, row = step_of(chance, model)
                getattr(model, kind)(*row)
                rows.append((self.outcome(book, kind, row), facts(book)))
            told_rows.append(rows)
        self.assertEqual(*told_rows)


if __name__ == "__main__":
    unittest.main()
