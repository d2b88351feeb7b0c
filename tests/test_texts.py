"""Point 23: webs and rides as texts, and read back."""

import random
import unittest

from changeride.errors import NoText, NoWeb, RideError
from changeride.rides import ride_is
from changeride.texts import read_ride, read_web, ride_text, web_text
from changeride.told import one_ride, round_of
from changeride.webs import web_of
from tests.samples import (
    ALL_AT_ONE,
    EMPTY,
    FULL,
    LONELY,
    LOOP,
    NO_WEBS,
    SIDE_BY_SIDE,
    TRIANGLE,
    WEBS,
    all_lists,
    all_tuples,
    mixed_web,
    webs_in_order,
)

BIG = 10 ** 30 - 1
NO_NUMBER_WORDS = (
    "",
    "-",
    "-1",
    "+1",
    "00",
    "01",
    "007",
    "1.0",
    "1e3",
    "1_0",
    "a",
    "x1",
    "1x",
    "0x1",
    "*",
    "one",
    "\u0661",
    "\u00b2",
    "\uff11",
)
NO_COMPANY_WORDS = ("", "A", "Z", "aa", "ab", "1", "0", "-", "`", "{", "a,", "*", "\u00e4", "\u0430")
NO_END_WORDS = (
    "",
    "0",
    "+",
    "-",
    "*",
    "+0",
    "-0",
    "0*",
    "0 +",
    "00+",
    "01-",
    "0++",
    "0--",
    "0+-",
    "-1+",
    "a+",
    "1.0+",
    "1_0-",
    "0+\t",
    "\t0+",
    "0+\n",
    "\u0661+",
    "\u00b2-",
    "0\u2212",
)
NO_TEXTS = (None, True, False, 0, 1, b"", b"places 0", b"0+", [], ["places 0"], ("0+",), {}, {"places": 0}, object(), 0.5)


def webs():
    yield from WEBS
    yield from webs_in_order(2, 2, "az")
    for seed in range(60):
        yield mixed_web(seed, 1 + seed % 24, seed, "abcdefghijklmnopqrstuvwxyz")
    yield BIG + 1, ((BIG, 0, "q"), (0, BIG, "a"), (BIG, BIG, "z"))
    yield BIG, ()


class Told(unittest.TestCase):
    def no_text(self, function, text, line):
        with self.assertRaises(NoText, msg=repr(text)) as caught:
            function(text)
        self.assertEqual(caught.exception.line, line, repr(text))
        self.assertIs(type(caught.exception.line), int)


class WebTexts(Told):
    def test_ordinary(self):
        self.assertEqual(web_text(TRIANGLE), "places 3\nline 0 1 a\nline 1 2 b\nline 2 0 c")
        self.assertEqual(web_text(SIDE_BY_SIDE), "places 2\nline 0 1 a\nline 0 1 a\nline 1 0 b")
        self.assertEqual(web_text(LOOP), "places 1\nline 0 0 a")
        self.assertEqual(web_text(EMPTY), "places 0")
        self.assertEqual(web_text(LONELY), "places 3")

    def test_read(self):
        self.assertEqual(repr(read_web("places 3\nline 0 1 a\nline 1 2 b\nline 2 0 c")), repr(TRIANGLE))
        self.assertEqual(repr(read_web("places 0")), repr(EMPTY))
        self.assertEqual(repr(read_web("places 3")), repr(LONELY))
        self.assertEqual(repr(read_web("places 11\nline 10 0 z")), repr((11, ((10, 0, "z"),))))

    def test_there_and_back(self):
        for web in webs():
            text = web_text(web)
            self.assertIs(type(text), str)
            self.assertEqual(text.count("\n"), len(web[1]))
            self.assertEqual(repr(read_web(text)), repr(web))
            self.assertEqual(web_text(read_web(text)), text)

    def test_lists_are_taken(self):
        for web in webs():
            self.assertEqual(web_text(all_lists(web)), web_text(web))

    def test_what_is_no_web_has_no_text(self):
        for web in NO_WEBS:
            with self.assertRaises(NoWeb, msg=repr(web)):
                web_text(web)

    def test_what_is_no_text(self):
        for thing in NO_TEXTS:
            self.no_text(read_web, thing, 1)

    def test_no_form_of_places(self):
        for word in NO_NUMBER_WORDS:
            self.no_text(read_web, f"places {word}", 1)
            self.no_text(read_web, f"places {word}\nline 0 0 a", 1)
        for row in ("", "place 1", "Places 1", "PLACES 1", "places", "places ", "places1", "places 1 ", " places 1"):
            self.no_text(read_web, row, 1)
            self.no_text(read_web, row + "\nline 0 0 a", 1)
        for row in ("places  1", "places 1 1", "places\t1", "places 1\r", "places 1 a", "1", "1 places", "line 0 0 a"):
            self.no_text(read_web, row, 1)
            self.no_text(read_web, row + "\nlines", 1)

    def test_no_form_of_lines(self):
        head = "places 3\nline 0 1 a\n"
        for word in NO_NUMBER_WORDS:
            self.no_text(read_web, head + f"line {word} 1 a", 3)
            self.no_text(read_web, head + f"line 1 {word} a", 3)
        for word in NO_COMPANY_WORDS:
            self.no_text(read_web, head + f"line 0 1 {word}", 3)
        rows = ("", " ", "line", "line ", "line 0 1", "line 0 1 ", "line 0 a", "line 0 1 a ", " line 0 1 a", "line 0 1a")
        rows += ("line  0 1 a", "line 0  1 a", "line 0 1  a", "line 0 1 2 a", "line 0 1 a b", "line a 0 1", "line 0,1,a")
        rows += ("Line 0 1 a", "lines 0 1 a", "places 3", "shut 0", "line\t0 1 a", "line 0 1\ta", "line 0 1 a\r", "0 1 a")
        for row in rows:
            self.no_text(read_web, head + row, 3)
            self.no_text(read_web, head + row + "\nline 0 1 a", 3)
            self.no_text(read_web, "places 3\n" + row + "\nline 0 1 A\nline", 2)

    def test_line_feeds_part_only(self):
        self.no_text(read_web, "places 3\n", 2)
        self.no_text(read_web, "\nplaces 3", 1)
        self.no_text(read_web, "places 3\n\nline 0 1 a", 2)
        self.no_text(read_web, "places 3\nline 0 1 a\n", 3)
        self.no_text(read_web, "places 3\rline 0 1 a", 1)
        self.no_text(read_web, "places 3\r\nline 0 1 a", 1)
        self.no_text(read_web, "places 3\u2028line 0 1 a", 1)
        self.no_text(read_web, "places 3\x0bline 0 1 a", 1)

    def test_the_first_line_of_no_form_is_told(self):
        rows = ["places 60"] + [f"line {k} 0 a" for k in range(60)]
        for at in range(61):
            for more in (at, min(at + 1, 60), 60):
                spoilt = list(rows)
                spoilt[at] = "line"
                spoilt[more] = "line 0"
                self.no_text(read_web, "\n".join(spoilt), at + 1)

    def test_of_good_form_but_no_web(self):
        texts = ["places 0\nline 0 0 a", "places 3\nline 0 3 a", "places 3\nline 3 0 a", "places 1\nline 0 0 a\nline 1 1 a"]
        texts += [f"places 24\nline 0 {BIG} b", f"places {BIG}\nline 0 {BIG} b", "places 2\nline 0 1 a\nline 0 2 z\nline 1 1 c"]
        for text in texts:
            with self.assertRaises(NoWeb, msg=text):
                read_web(text)

    def test_no_text_goes_ahead_of_no_web(self):
        self.no_text(read_web, "places 0\nline 0 0 a\nline 0 0 A", 3)
        self.no_text(read_web, "places 0\nline 0 0 a\n", 3)

    def test_spoilt_by_a_sign(self):
        """Whatever is read is told back the same, sign by sign."""
        chance = random.Random(23)
        read = 0
        for web in (TRIANGLE, SIDE_BY_SIDE, LONELY, (12, ((10, 11, "a"), (3, 0, "b")))):
            text = web_text(web)
            for _ in range(1500):
                at = chance.randrange(len(text) + 1)
                sign = chance.choice(" 0123456789abcplines+-*\n")
                spoilt = text[:at] + sign + text[at + chance.randrange(2):]
                try:
                    told = read_web(spoilt)
                except RideError as refusal:
                    self.assertIn(type(refusal), (NoText, NoWeb))
                else:
                    self.assertEqual(web_text(told), spoilt)
                    self.assertEqual(web_of(*told), told)
                    read += 1
        self.assertGreater(read, 300)


class RideTexts(Told):
    def test_ordinary(self):
        self.assertEqual(ride_text([(0, 0), (1, 0), (2, 1)]), "0+ 1+ 2-")
        self.assertEqual(ride_text([(10, 1)]), "10-")
        self.assertEqual(ride_text([]), "")
        self.assertEqual(repr(read_ride("0+ 1+ 2-")), repr([(0, 0), (1, 0), (2, 1)]))
        self.assertEqual(repr(read_ride("10-")), repr([(10, 1)]))
        self.assertEqual(repr(read_ride("")), "[]")

    def test_there_and_back(self):
        chance = random.Random(5)
        rides = [[(BIG, 1), (0, 0), (BIG, 0)], [(0, 0)], [(0, 1)], [], round_of(ALL_AT_ONE), round_of(TRIANGLE)]
        rides += [[(chance.randrange(70), chance.randrange(2)) for _ in range(many)] for many in range(61)]
        for ride in rides:
            text = ride_text(ride)
            self.assertIs(type(text), str)
            self.assertEqual(repr(read_ride(text)), repr(ride))
            self.assertEqual(ride_text(read_ride(text)), text)

    def test_whether_a_ride_or_not(self):
        ride = [(0, 0), (0, 0), (9, 1)]
        self.assertFalse(ride_is(TRIANGLE, ride))
        self.assertEqual(read_ride(ride_text(ride)), ride)
        self.assertTrue(ride_is(TRIANGLE, read_ride(ride_text(one_ride(TRIANGLE)))))

    def test_lists_and_tuples_are_taken(self):
        ride = [(0, 0), (11, 1)]
        for one in (tuple(ride), all_lists(tuple(ride)), all_tuples(ride), [[0, 0], (11, 1)]):
            self.assertEqual(ride_text(one), "0+ 11-")
        self.assertEqual(ride_text(()), "")

    def test_what_is_no_text(self):
        for thing in NO_TEXTS:
            self.no_text(read_ride, thing, 1)

    def test_no_form(self):
        for word in NO_END_WORDS:
            if word != "":
                self.no_text(read_ride, word, 1)
            self.no_text(read_ride, f"{word} 0+", 1)
            self.no_text(read_ride, f"0+ {word}", 1)
            self.no_text(read_ride, f"0+ {word} 1-", 1)
        for text in (" ", "  ", "0+ ", " 0+", "0+  1+", "0+1+", "0+,1+", "0+\t1+", "!0+ 1+", "0+; 1+", "none", "0+ none"):
            self.no_text(read_ride, text, 1)

    def test_of_a_ride_always_line_one(self):
        for text in ("\n", "0+\n", "\n0+", "0+\n1+", "0+\n1", "0+ 1+\n\n2"):
            self.no_text(read_ride, text, 1)

    def test_new_lists(self):
        told = read_ride("0+ 1-")
        told.append("spoilt")
        self.assertEqual(read_ride("0+ 1-"), [(0, 0), (1, 1)])


class Sizes(Told):
    def test_two_thousand_signs(self):
        lines = tuple((k % 24, (k * 5) % 24, "abcdefg"[k % 7]) for k in range(150))
        text = web_text((24, lines))
        self.assertGreater(len(text), 1500)
        self.assertEqual(read_web(text), (24, lines))
        self.assertEqual(read_ride("0+ " * 600 + "1-"), [(0, 0)] * 600 + [(1, 1)])
        self.no_text(read_web, "places " + "0" * 1990, 1)
        self.assertEqual(read_web(web_text(FULL)), FULL)


if __name__ == "__main__":
    unittest.main()
