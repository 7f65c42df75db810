"""The desk that answers rows (point 17)."""

import itertools
import random
import re
import unittest
from fractions import Fraction

from hookspans.bands import widen
from hookspans.book import Book
from hookspans.desk import Desk
from hookspans.errors import HooksError
from hookspans.firmness import Firm, firm
from hookspans.places import Places
from hookspans.reaches import order, reach
from hookspans.stands import stand
from hookspans.webtexts import read_web, web_rows

from tests.exact import made
from tests.making import beam, fan, refusal_of, ring

SINGLE = ["rods 3", "held 0 0", "held 1 10", "bar 0 1 2 10 2 8"]
PAIR = ["rods 4", "held 0 0", "held 1 10", "bar 0 1 2 10 2 8", "bar 0 2 3 9 1 3"]

DONE = ["done"]
BADROW = ["refused badrow"]

# The rows that are rows, by the words of point 17; keep's are looked at apart.
NUMBER = "(?:0|[1-9][0-9]{0,6})"
SIGNED = "(?:0|-?[1-9][0-9]{0,6})"
FORMS = [re.compile(form.replace("NAME", "[^ ]+").replace("SIGNED", SIGNED)
                    .replace("NUMBER", NUMBER))
         for form in ("drop NAME", "span NAME NUMBER NUMBER NUMBER", "back",
                      "web NAME", "names", "firm NAME", "stand NAME(?: NUMBER)+",
                      "reach NAME(?: SIGNED)+", "order NAME", "widen NAME NUMBER",
                      "claim NAME SIGNED (?!0)NUMBER(?: SIGNED)+", "broken")]
WEB_FORM = re.compile(
    "rods NUMBER((?: ; held NUMBER SIGNED)*)(?: ; bar(?: NUMBER){6})*"
    .replace("SIGNED", SIGNED).replace("NUMBER", NUMBER))


def is_row(row):
    """Whether a row is one of those told in point 17."""
    if any(form.fullmatch(row) for form in FORMS):
        return True
    found = re.fullmatch("keep [^ ]+ (.*)", row)
    written = WEB_FORM.fullmatch(found[1]) if found else None
    if not written:
        return False
    held = [int(rod) for rod in re.findall("held ([0-9]+)", written[1])]
    return all(one < other for one, other in zip(held, held[1:]))


def keep_row(name, rows):
    return " ".join(["keep", name, " ; ".join(rows)])


def keep_web(name, web):
    return keep_row(name, web_rows(web))


def filled():
    """A desk with two firm webs, a loose one, and two claims."""
    desk = Desk()
    for row in (keep_row("one", SINGLE), keep_row("two", PAIR),
                keep_web("slack", beam((0, 3), (1, 4))),
                "claim one 5 2 0 0 1", "claim two -1 1 0 0 1 -1"):
        told = desk.tell(row)
        assert told in (DONE, ["true"], ["false"]), (row, told)
    return desk


def facts(desk):
    """All that a desk tells of what it has, down to what can be taken back."""
    told = [desk.tell("names"), desk.tell("broken")]
    told += [desk.tell("web " + name) for name in desk.tell("names")]
    return told


class Desking(unittest.TestCase):

    def assert_tells(self, desk, *pairs):
        for row, wanted in pairs:
            with self.subTest(row=row):
                told = desk.tell(row)
                self.assertIs(type(told), list)
                self.assertEqual(told, wanted)

    def assert_refused_row(self, desk, row, name):
        """Refused with this class's name, twice, and nothing is changed."""
        before = facts(desk)
        with self.subTest(row=row):
            for _ in range(2):
                self.assertEqual(desk.tell(row), ["refused " + name])
            self.assertEqual(facts(desk), before)

    def assert_badrow(self, desk, *rows):
        for row in rows:
            self.assertFalse(is_row(row), row)
            self.assert_refused_row(desk, row, "badrow")


class TestEachRow(Desking):

    def test_keep_web_names_drop(self):
        desk = Desk()
        self.assert_tells(
            desk, ("names", []), ("broken", []),
            (keep_row("two", PAIR), DONE), (keep_row("one", SINGLE), DONE),
            ("names", ["one", "two"]), ("web one", SINGLE), ("web two", PAIR),
            (keep_row("one", PAIR), DONE), ("web one", PAIR),
            ("drop one", DONE), ("names", ["two"]), ("web one", ["refused noweb"]),
            ("back", DONE), ("web one", PAIR), ("back", DONE), ("web one", SINGLE),
            ("back", DONE), ("names", ["two"]), ("back", DONE), ("names", []),
            ("back", ["refused noback"]))

    def test_keep_as_it_is(self):
        desk = filled()
        self.assert_tells(desk, (keep_row("two", PAIR), DONE), ("back", DONE),
                          ("back", DONE), ("back", DONE), ("names", ["one", "two"]))

    def test_span(self):
        desk = filled()
        self.assert_tells(
            desk, ("span two 1 0 9", DONE),
            ("web two", PAIR[:4] + ["bar 0 2 3 9 0 9"]),
            ("span two 0 5 5", DONE),
            ("web two", PAIR[:3] + ["bar 0 1 2 10 5 5", "bar 0 2 3 9 0 9"]),
            ("span two 0 5 5", DONE), ("back", DONE),
            ("web two", PAIR[:4] + ["bar 0 2 3 9 0 9"]))

    def test_firm(self):
        desk = filled()
        self.assert_tells(desk, ("firm one", ["firm"]), ("firm two", ["firm"]),
                          ("firm slack", ["loose"]))
        # Loose at a corner alone is loose.
        self.assert_tells(desk, (keep_web("edge", beam((0, 2), (2, 4))), DONE),
                          ("firm edge", ["loose"]), ("span edge 0 0 1", DONE),
                          ("firm edge", ["firm"]))

    def test_stand(self):
        desk = filled()
        desk.tell(keep_web("ring", ring((0, 2), (0, 2))))
        desk.tell(keep_web("low", fan([(0, 9)], length=9)))
        self.assert_tells(
            desk, ("stand one 5", ["0 10 5"]), ("stand one 0", ["0 10 0"]),
            ("stand one 10", ["0 10 10"]), ("stand two 7 2", ["0 10 7 14/9"]),
            ("stand two 8 3", ["0 10 8 8/3"]), ("stand ring 1 1", ["0 1 1/3 2/3"]),
            ("stand ring 2 2", ["0 1 1 1"]), ("stand low 4", ["0 10 40/9"]),
            ("stand slack 0 1", ["0 12 0 48"]))
        desk.tell("keep down rods 3 ; held 0 -3 ; held 1 -10 ; bar 0 1 2 14 0 14")
        self.assert_tells(desk, ("stand down 1", ["-3 -10 -7/2"]),
                          ("stand down 2", ["-3 -10 -4"]))

    def test_reach(self):
        desk = filled()
        self.assert_tells(
            desk, ("reach one 0 0 1", ["2 8"]), ("reach one 0 0 -1", ["-8 -2"]),
            ("reach one 1 0 0", ["0 0"]), ("reach one 0 1 -2", ["-6 6"]),
            ("reach two 0 0 0 1", ["2/9 8/3"]), ("reach two 0 0 1 -1", ["4/3 64/9"]),
            ("reach two 0 0 -1 1", ["-64/9 -4/3"]), ("reach two 0 0 0 0", ["0 0"]))

    def test_order(self):
        desk = filled()
        self.assert_tells(
            desk, ("order one", ["1 0", "1 2", "2 0"]),
            ("order two", ["1 0", "1 2", "1 3", "2 0", "2 3", "3 0"]),
            ("keep level rods 3 ; held 0 4 ; held 1 4 ; bar 0 1 2 4 1 2", DONE),
            ("order level", []))

    def test_widen(self):
        desk = filled()
        desk.tell(keep_web("edge", beam((0, 1), (2, 4), length=6, other=5)))
        self.assert_tells(desk, ("widen one 0", ["0 10"]), ("widen two 0", ["0 10"]),
                          ("widen two 1", ["0 9"]), ("widen edge 0", ["0 12/5"]),
                          ("widen edge 1", ["5/6 5"]))

    def test_claim_and_broken(self):
        desk = filled()
        self.assert_tells(
            desk, ("broken", ["one 5/2 0 0 1"]),
            ("claim one 2 1 0 0 1", ["true"]), ("claim one 3 1 0 0 1", ["false"]),
            ("claim one -8 1 0 0 -1", ["true"]), ("claim one -7 1 0 0 -1", ["false"]),
            ("claim two 0 1 0 0 0 1", ["true"]), ("claim two 1 4 0 0 0 1", ["false"]),
            ("broken", ["one 5/2 0 0 1", "one 3 0 0 1", "one -7 0 0 -1",
                        "two 1/4 0 0 0 1"]),
            ("span one 0 3 7", DONE),
            ("broken", ["two 1/4 0 0 0 1"]),
            ("back", DONE), ("back", DONE),
            ("broken", ["one 5/2 0 0 1", "one 3 0 0 1", "one -7 0 0 -1"]),
            ("drop one", DONE), ("broken", []))

    def test_broken_of_a_loose_web(self):
        desk = Desk()
        self.assert_tells(
            desk, (keep_web("a", beam((0, 1), (2, 4))), DONE),
            ("claim a -9999999 1 0 0 0 0", ["true"]),
            ("claim a -1 3 0 1 0 0", ["true"]), ("broken", []),
            ("span a 0 0 4", DONE),
            ("broken", ["a -9999999 0 0 0 0", "a -1/3 0 1 0 0"]),
            ("claim a -1 3 0 1 0 0", ["refused loose"]),
            ("reach a 0 0 0 0", ["refused loose"]), ("order a", ["refused loose"]),
            ("widen a 0", ["refused loose"]), ("firm a", ["loose"]),
            ("back", DONE), ("broken", []))

    def test_claims_not_in_lowest_terms(self):
        desk = Desk()
        desk.tell(keep_row("a", SINGLE))
        self.assert_tells(
            desk, ("claim a 10 4 0 0 1", ["false"]), ("broken", ["a 5/2 0 0 1"]),
            ("claim a 5 2 0 0 1", ["false"]), ("claim a 15 6 0 0 1", ["false"]),
            ("broken", ["a 5/2 0 0 1"]), ("claim a 6 2 0 0 1", ["false"]),
            ("claim a 3 1 0 0 1", ["false"]),
            ("broken", ["a 5/2 0 0 1", "a 3 0 0 1"]),
            ("claim a 0 7 0 0 -1", ["false"]), ("claim a 0 1 0 0 -1", ["false"]),
            ("claim a -14 4 0 0 -1", ["false"]), ("claim a -7 2 0 0 -1", ["false"]),
            ("broken", ["a 5/2 0 0 1", "a 3 0 0 1", "a 0 0 0 -1", "a -7/2 0 0 -1"]),
            ("back", DONE), ("back", DONE), ("back", DONE), ("back", DONE),
            ("names", ["a"]), ("back", DONE), ("names", []))

    def test_numbers_at_their_edges(self):
        desk = filled()
        self.assert_tells(
            desk, ("reach one 9999999 0 0", ["0 0"]),
            ("reach one 0 -9999999 0", ["-99999990 -99999990"]),
            ("claim one 9999999 9999999 0 0 1", ["true"]),
            ("claim one -9999999 9999998 0 0 1", ["true"]),
            ("claim one 9999998 9999999 0 0 0", ["false"]),
            ("stand one 9999999", ["refused badplace"]),
            ("span one 9999999 0 0", ["refused nobar"]),
            ("span one 0 0 9999999", ["refused badspan"]),
            ("widen one 9999999", ["refused nobar"]))

    def test_by_name(self):
        self.assertEqual(Desk().tell(row="names"), [])


class TestRefused(Desking):

    def test_no_web(self):
        desk = filled()
        for name in ("three", "on", "ones", "One", "a-b", ";", "rods", "1", "-0", "#",
                     "abcdefghijkl", "00"):
            for row in ("drop NAME", "span NAME 0 1 2", "web NAME", "firm NAME",
                        "stand NAME 1", "reach NAME 0 0 1", "order NAME",
                        "widen NAME 0", "claim NAME 1 2 0 0 1"):
                self.assert_refused_row(desk, row.replace("NAME", name), "noweb")

    def test_no_name(self):
        desk = filled()
        for name in ("One", "1", "abcdefghi", "a-b", "a_b", ";", "-", "0a", "A", "#",
                     "a;", "~"):
            self.assert_refused_row(desk, keep_row(name, SINGLE), "noname")

    def test_a_keep_whose_web_is_none(self):
        # The web is told ahead of the name.
        for name in ("one", "new", "One", ";", "abcdefghi"):
            for rows, wanted in (
                    (["rods 2"] + SINGLE[1:], "badcount"),
                    (["rods 3"], "badcount"), (["rods 0"], "badcount"),
                    (SINGLE[:3], "badcount"), (SINGLE[:1] + SINGLE[3:], "badcount"),
                    (SINGLE[:2] + ["held 1 1000001"] + SINGLE[3:], "badcount"),
                    (SINGLE[:2] + ["held 3 1"] + SINGLE[3:], "norod"),
                    (SINGLE + SINGLE[3:], "notsquare"), (["rods 5"] + SINGLE[1:],
                                                         "notsquare"),
                    (SINGLE[:3] + ["bar 0 1 3 10 2 8"], "norod"),
                    (SINGLE[:3] + ["bar 0 1 1 10 2 8"], "samerod"),
                    (SINGLE[:3] + ["bar 0 0 1 10 2 8"], "samerod"),
                    (SINGLE[:3] + ["bar 0 1 2 0 0 0"], "badcount"),
                    (SINGLE[:3] + ["bar 0 1 2 10 8 2"], "badspan")):
                self.assert_refused_row(filled(), keep_row(name, rows), wanted)

    def test_ninth_web(self):
        desk = Desk()
        for k in range(8):
            self.assertEqual(desk.tell(keep_row(f"w{k}", SINGLE)), DONE)
        self.assert_refused_row(desk, keep_row("w8", SINGLE), "badcount")
        self.assert_refused_row(desk, keep_row("W8", SINGLE), "noname")
        self.assert_refused_row(desk, keep_row("w8", SINGLE[:3] + ["bar 0 1 1 1 1 1"]),
                                "samerod")
        self.assert_tells(desk, (keep_row("w7", PAIR), DONE), ("web w7", PAIR))

    def test_other_refusals(self):
        desk = filled()
        for row, name in (("span two 2 1 2", "nobar"), ("span two 2 3 2", "nobar"),
                          ("span two 0 3 2", "badspan"), ("span two 1 1 10", "badspan"),
                          ("span no 5 3 2", "noweb"),
                          ("stand two 1", "badcount"), ("stand two 1 2 3", "badcount"),
                          ("stand two 11 1", "badplace"), ("stand two 1 10", "badplace"),
                          ("stand slack 2 2", "loose"), ("stand slack 2 5", "badplace"),
                          ("reach two 1", "badcount"), ("reach two 1 2 3 4 5", "badcount"),
                          ("reach slack 1", "badcount"), ("reach slack 0 0 0 0", "loose"),
                          ("order slack", "loose"), ("widen slack 0", "loose"),
                          ("widen slack 2", "nobar"), ("widen two 2", "nobar"),
                          ("claim two 1 2 3", "badcount"), ("claim slack 1 2 3", "badcount"),
                          ("claim slack 1 2 0 0 0 0", "loose"),
                          ("claim no 1 2 3", "noweb")):
            self.assert_refused_row(desk, row, name)

    def test_no_back(self):
        desk = Desk()
        self.assert_refused_row(desk, "back", "noback")
        desk.tell(keep_row("a", SINGLE))
        self.assertEqual(desk.tell("back"), DONE)
        self.assert_refused_row(desk, "back", "noback")

    def test_refused_is_not_taken_back(self):
        desk = Desk()
        desk.tell(keep_row("a", SINGLE))
        for row in ("keep A " + " ; ".join(PAIR), "drop b", "span a 0 3 2",
                    "claim a 1 1 1", "claim a 1 0 0 0 1", "", "drop a b"):
            self.assertEqual(desk.tell(row)[0][:8], "refused ")
        self.assert_tells(desk, ("back", DONE), ("names", []))


class TestBadRows(Desking):

    RIGHT = ["drop one", "span two 0 1 2", "back", "web one", "names", "firm one",
             "stand two 1 2", "reach two 0 0 1 -1", "order one", "widen one 0",
             "claim two -1 2 0 0 1 -1", "broken", keep_row("new", SINGLE)]

    def test_right_ones_are(self):
        for row in self.RIGHT:
            self.assertTrue(is_row(row), row)
            self.assertNotEqual(filled().tell(row)[:1], BADROW)

    def test_no_sign_and_blanks(self):
        desk = filled()
        self.assert_badrow(desk, "", " ", "  ", "   ")
        for row in self.RIGHT:
            self.assert_badrow(desk, " " + row, row + " ", " " + row + " ")
            for k, sign in enumerate(row):
                if sign == " ":
                    self.assert_badrow(desk, row[:k] + " " + row[k:])

    def test_other_words(self):
        desk = filled()
        for row in self.RIGHT:
            word, *rest = row.split(" ")
            for other in (word[:-1], word + "s", word.upper(), word.title(), "x", ";",
                          "-", "0", "tell", "help", word + ";", "met", "move", "band",
                          "hangs", "many", "claims", "led", "rods", "held", "bar"):
                self.assert_badrow(desk, " ".join([other] + rest))
            if rest:
                self.assert_badrow(desk, " ".join(rest))

    def test_too_few_parts(self):
        desk = filled()
        for row, least in (("drop one", 2), ("span two 0 1 2", 5), ("web one", 2),
                           ("firm one", 2), ("stand one 1", 3), ("reach one 1", 3),
                           ("order one", 2), ("widen one 0", 3),
                           ("claim one 1 2 3", 5), ("keep one rods 3", 4)):
            parts = row.split(" ")
            self.assertTrue(is_row(row), row)
            self.assertEqual(len(parts), least)
            for many in range(1, least):
                self.assert_badrow(desk, " ".join(parts[:many]))

    def test_too_many_parts(self):
        desk = filled()
        for row in ("drop one", "span two 0 1 2", "back", "web one", "names",
                    "firm one", "order one", "widen one 0", "broken"):
            for more in ("0", "one", "x", ";", "-1"):
                self.assert_badrow(desk, row + " " + more)

    def test_numbers(self):
        desk = filled()
        for row in ("span two HERE 1 2", "span two 0 HERE 2", "span two 0 1 HERE",
                    "stand two HERE 2", "stand two 1 HERE", "widen one HERE",
                    "claim one 1 HERE 0 0 1", "reach one HERE 0 1", "reach one 0 0 HERE",
                    "claim one HERE 2 0 0 1", "claim one 1 2 HERE 0 1",
                    "claim one 1 2 0 0 HERE"):
            for number in ("00", "01", "-0", "-01", "--1", "-", "+1", "1.0", "a", "1a",
                           "10000000", "00000000", "-10000000", "1/2", ";", "x1", "1_0",
                           "1-", "012", "#"):
                self.assert_badrow(desk, row.replace("HERE", number))

    def test_signs(self):
        desk = filled()
        for row in ("span two -1 1 2", "span two 0 -1 2", "span two 0 1 -2",
                    "stand two -1 2", "stand two 1 -2", "stand one -5", "widen one -1",
                    "claim one 1 -2 0 0 1", "claim one -1 -2 0 0 1"):
            self.assert_badrow(desk, row)
        for row in ("reach one -1 0 1", "reach one 0 0 -1", "claim one -1 2 0 0 1",
                    "claim one 1 2 -1 -2 -3"):
            self.assertNotEqual(filled().tell(row), BADROW)

    def test_bottom_nought(self):
        desk = filled()
        self.assert_badrow(desk, "claim one 1 0 0 0 1", "claim one 0 0 0 0 1",
                           "claim no 1 0 0 0 1", "claim one 1 0 1")

    def test_rows_of_a_web(self):
        desk = filled()
        for at in range(len(SINGLE)):
            for other in ("", "x", SINGLE[at] + " 0", SINGLE[at].rsplit(" ", 1)[0],
                          SINGLE[at] + ";", ";" + SINGLE[at], SINGLE[at] + " ;",
                          "; " + SINGLE[at], "rods 03", "held 0", "held 1 -0",
                          "bar 0 1 2 10 2 -8", "bar 0 1 2 10 2 00000008"):
                rows = SINGLE[:at] + [other] + SINGLE[at + 1:]
                for name in ("new", "one", "New"):
                    self.assert_badrow(desk, keep_row(name, rows))
        for rows in (SINGLE[1:], SINGLE[::-1], SINGLE + ["rods 3"], SINGLE[:1] + SINGLE,
                     [SINGLE[0], SINGLE[2], SINGLE[1], SINGLE[3]],
                     SINGLE[:2] + SINGLE[1:], SINGLE + ["held 2 0"], [""], []):
            self.assert_badrow(desk, keep_row("new", rows))

    def test_rows_not_parted_as_told(self):
        desk = filled()
        for between in (";", " ;", "; ", " ;  ", "  ; ", " ", " ; ; ", " , ", " ;; ",
                        " : ", "\n", " ;\n"):
            self.assert_badrow(desk, "keep new " + between.join(SINGLE))
        joined = " ; ".join(SINGLE)
        self.assert_badrow(desk, "keep new ; " + joined, "keep new " + joined + " ;",
                           "keep new " + joined + " ; ", "keep new  ; " + joined,
                           "keep " + joined)
        # Any part without a blank is read as a NAME.
        self.assert_refused_row(desk, "keep new; " + joined, "noname")

    def test_ahead_of_all_else(self):
        for desk in (Desk(), filled()):
            for row in ("drop no web", "span no 0 1", "span no 9 -1 0", "web No x",
                        "firm no 1", "stand no", "stand no -1", "stand slack 2 2 -1",
                        "reach no", "reach no 01", "reach slack 1 x", "order no 1",
                        "widen no", "widen no -1", "widen slack 9 9", "claim no 1 0 1",
                        "claim no 1 1", "claim slack 1 2 -0", "back 1",
                        "keep New rods 2 ; x", "keep New rods 99 ; held 0",
                        "keep One x", "names 1", "broken x"):
                self.assert_badrow(desk, row)

    def test_changed_in_one_sign(self):
        chance = random.Random(171)
        signs = " ;-/0123456789abdeklnorstwx"
        rows = self.RIGHT + [keep_row("b", PAIR), "stand one 5", "claim one 10 4 0 0 1",
                             "reach one -12 0 7", "span one 0 10 10",
                             "keep c rods 3 ; held 0 -12 ; held 1 7 ; bar 0 1 2 7 0 1"]
        seen = {True: 0, False: 0}
        desk = filled()
        for _ in range(6000):
            row = chance.choice(rows)
            for _ in range(chance.choice((1, 1, 2))):
                at = chance.randrange(len(row) + 1)
                row = row[:at] + chance.choice(["", chance.choice(signs)]) + row[
                    at + chance.randrange(2):]
            told = desk.tell(row)
            with self.subTest(row=row):
                self.assertEqual(told == BADROW, not is_row(row))
            seen[is_row(row)] += 1
        self.assertGreater(min(seen.values()), 500)


class TestApart(Desking):

    def test_two_desks(self):
        one, other = Desk(), Desk()
        self.assert_tells(one, (keep_row("a", SINGLE), DONE))
        self.assert_tells(other, ("names", []), ("back", ["refused noback"]),
                          (keep_row("a", PAIR), DONE))
        self.assert_tells(one, ("web a", SINGLE), ("claim a 5 1 0 0 1", ["false"]))
        self.assert_tells(other, ("broken", []), ("drop a", DONE))
        self.assert_tells(one, ("names", ["a"]), ("broken", ["a 5 0 0 1"]),
                          ("back", DONE), ("back", DONE), ("back", ["refused noback"]))
        self.assert_tells(other, ("back", DONE), ("web a", PAIR))

    def test_told_lists_changed_behind(self):
        desk = filled()
        for row in ("names", "broken", "web one", "order one", "firm one", "widen one 0",
                    "stand one 5", "reach one 0 0 1", "claim one 1 1 0 0 1",
                    "drop no", "", "span one 0 2 8"):
            first = desk.tell(row)
            wanted = list(first)
            first.append("more")
            first.reverse()
            second = desk.tell(row)
            self.assertEqual(second, wanted)
            self.assertIsNot(first, second)
        self.assertEqual(facts(desk), facts(filled()))

    def test_asking_changes_nothing(self):
        desk = filled()
        before = facts(desk)
        for row in ("names", "broken", "web one", "order one", "firm slack",
                    "widen one 0", "stand one 5", "reach one 0 0 1"):
            self.assertEqual(desk.tell(row), desk.tell(row))
        self.assertEqual(facts(desk), before)
        # And is nothing to take back.
        self.assert_tells(desk, ("back", DONE), ("broken", ["one 5/2 0 0 1"]),
                          ("claim two 99 1 0 0 1 -1", ["false"]),
                          ("broken", ["one 5/2 0 0 1", "two 99 0 0 1 -1"]))


def text_of(fraction):
    """The text of a fraction, by Python's own."""
    return str(Fraction(*fraction))


def wanted_answer(book, row):
    """A well written row's answer, by the other modules, or their refusal."""
    word, *parts = row.split(" ")
    name = parts[0] if parts else None
    numbers = [int(part) for part in parts[1:]] if word != "keep" else []
    if word == "keep":
        book.keep(name, read_web(row.split(" ", 2)[2].split(" ; ")))
    elif word == "drop":
        book.drop(name)
    elif word == "span":
        book.span(name, *numbers)
    elif word == "back":
        book.back()
    elif word == "names":
        return book.names()
    elif word == "broken":
        return [" ".join([kept, text_of(least)] + [str(weight) for weight in weights])
                for kept, weights, least in book.broken()]
    elif word == "claim":
        least = Fraction(numbers[0], numbers[1])
        told = book.claim(name, numbers[2:], (least.numerator, least.denominator))
        return [str(told).lower()]
    else:
        return wanted_of_web(book.web(name), word, numbers)
    return DONE


def wanted_of_web(web, word, numbers):
    if word == "web":
        return web_rows(web)
    if word == "firm":
        return ["firm" if type(firm(web)) is Firm else "loose"]
    if word == "stand":
        told = stand(web, Places(numbers, 1))
        return [" ".join(text_of((top, told.bottom)) for top in told.tops)]
    if word == "order":
        return [f"{higher} {lower}" for higher, lower in order(web)]
    told = reach(web, numbers) if word == "reach" else widen(web, *numbers)
    return [text_of(told.least) + " " + text_of(told.greatest)]


def any_row(chance, book):
    """A well written row of any kind, at times one that is refused."""
    name = chance.choice(["a", "b", "c", "D", "e1"])
    rods, bars = 3, 1
    if book.names() and chance.random() < 0.85:
        name = chance.choice(book.names())
        rods, bars = book.web(name).rods, len(book.web(name).bars)
    off = chance.choice((0, 0, 0, 0, 1))
    weights = [chance.randrange(-2, 3) for _ in range(rods + off)]
    word = chance.choice(["keep", "keep", "drop", "span", "span", "back", "back", "web",
                          "names", "firm", "stand", "stand", "reach", "reach", "order",
                          "widen", "claim", "claim", "claim", "broken", "broken"])
    row = {"keep": [], "drop": [], "back": None, "names": None, "broken": None,
           "web": [], "firm": [], "order": [],
           "span": [chance.randrange(bars + off), *sorted(chance.choices(range(5), k=2))],
           "stand": [chance.randrange(4 + off) for _ in range(bars + off)],
           "reach": weights, "widen": [chance.randrange(bars + off)],
           "claim": [chance.randrange(-9, 9), chance.randrange(1, 5)] + weights}[word]
    if word == "keep":
        web = made(chance, chance.choice((1, 2, 2, 3)), 3, tame=chance.random() < 0.8)
        return keep_web(name, web)
    return word if row is None else " ".join([word, name] + [str(one) for one in row])


class TestAgainstTheOtherModules(unittest.TestCase):

    def test_many_rows(self):
        seen = {}
        for seed in range(8):
            chance = random.Random(seed)
            desk, book = Desk(), Book()
            for _ in range(250):
                row = any_row(chance, book)
                self.assertTrue(is_row(row), row)
                try:
                    wanted = wanted_answer(book, row)
                except HooksError as error:
                    wanted = ["refused " + type(error).__name__.lower()]
                with self.subTest(row=row):
                    self.assertEqual(desk.tell(row), wanted)
                key = (row.split(" ")[0], wanted[:1] if wanted[:1] and
                       wanted[0].startswith("refused") else "told")
                seen[str(key)] = seen.get(str(key), 0) + 1
        self.assertGreater(len(seen), 25)

    def test_refusals_have_a_row_each(self):
        for row, call in (("back", Book().back),
                          ("drop a", lambda: Book().drop("a")),
                          ("stand a 1", lambda: Book().web("a"))):
            self.assertEqual(Desk().tell(row), [refusal_of(call).told()])


if __name__ == "__main__":
    unittest.main()
