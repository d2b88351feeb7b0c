"""Point 24: the desk, row by row."""

import random
import unittest

from changeride.added import new_lines
from changeride.desk import Desk
from changeride.errors import NoCompany, NoEnd, NoForm, NoLine, NoneYet, NoPlace, RideError
from changeride.rides import ride_is, round_is
from changeride.riding import fewest, paper_of, riding, riding_is, shown_by
from changeride.texts import read_ride, ride_text, web_text
from changeride.told import ride_by, round_of
from changeride.wants import wants
from changeride.webs import merged, painted, with_line, without_line
from tests.samples import (
    ALL_AT_ONE,
    EMPTY,
    FULL,
    LONELY,
    LOOP,
    ONE_COMPANY,
    SIDE_BY_SIDE,
    TRIANGLE,
    TWO_PARTS,
    WEBS,
    mixed_web,
    round_web,
)

ASKING = ("wants", "fewest", "riding", "paper", "round", "from * *", "new z")
NO_ROWS = (None, True, False, 0, 1, b"", b"wants", [], ["wants"], ("wants",), {}, {"wants": 1}, object(), 0.5)
NO_FORMS = (
    "",
    " ",
    "\n",
    "Wants",
    "WANTS",
    "want",
    "wants ",
    " wants",
    "wants 0",
    "wants\n",
    "wants\t",
    "wants\nwants",
    "fewest 1",
    "fewest ",
    "riding a",
    "paper 0",
    "paper ",
    "round 0",
    "round  ",
    "undo 1",
    "undo undo",
    "undo ",
    "none",
    "ok",
    "say wants",
    "*",
    "0",
    "places",
    "places ",
    "places -1",
    "places 01",
    "places 00",
    "places +1",
    "places a",
    "places 1 1",
    "places  1",
    "places 1 ",
    " places 1",
    "places 1\n",
    "places 1\nline 0 0 a",
    "places *",
    "places 1.0",
    "places 1_0",
    "line",
    "line 0 0",
    "line 0 a",
    "line 0 0 A",
    "line 0 0 aa",
    "line 0 0 0",
    "line 0 0 *",
    "line 0 0 a ",
    "line 0  0 a",
    "line 00 0 a",
    "line 0 00 a",
    "line -1 0 a",
    "line 0 0 a b",
    "line a 0 0",
    "line 0 0 a\n",
    "Line 0 0 a",
    "shut",
    "shut ",
    "shut a",
    "shut -1",
    "shut 00",
    "shut 0 1",
    "shut 0+",
    "shut *",
    "paint",
    "paint 0",
    "paint a",
    "paint 0 A",
    "paint 0 ab",
    "paint a 0",
    "paint a a",
    "paint 00 a",
    "paint 0 a a",
    "paint 0 1",
    "merge",
    "merge a",
    "merge a B",
    "merge A b",
    "merge ab",
    "merge a b c",
    "merge 0 a",
    "merge a 0",
    "merge a  b",
    "from",
    "from *",
    "from 0+",
    "from 0+ ",
    "from 0 1",
    "from 0+ 1",
    "from 0 1+",
    "from 00+ *",
    "from * 01-",
    "from + -",
    "from ** *",
    "from *+ *",
    "from * * *",
    "from 0+ 1+ 2+",
    "from a+ *",
    "from none none",
    "from 0 + *",
    "new",
    "new ",
    "new A",
    "new ab",
    "new 0",
    "new *",
    "new a b",
    "new  a",
)


def desk_of(web):
    """A desk that was told a web, row by row of its text."""
    desk = Desk()
    for row in web_text(web).split("\n"):
        desk.say(row)
    return desk


def heard(desk):
    """All that a desk answers to rows that change nothing."""
    return [desk.say(row) for row in ASKING]


def due_of(web):
    """The same, put together from what the stages tell."""
    ways = [("!" if word == "round" else "") + ride_text(way) for word, way in riding(web)]
    whole, one = round_of(web), ride_by(web)
    return [
        " ".join(map(str, wants(web))) or "none",
        str(fewest(web)),
        "; ".join(ways) or "none",
        " ".join(f"{place}:{reason}" for place, reason in paper_of(web)) or "none",
        "none" if whole is None else ride_text(whole),
        "none" if one is None else ride_text(one),
        " ".join(f"{one}-{other}" for one, other, _ in new_lines(web, "z")) or "none",
    ]


class Answers(unittest.TestCase):
    def say(self, desk, row, due):
        told = desk.say(row)
        self.assertIs(type(told), str)
        self.assertEqual(told, due, row)

    def test_at_first_a_web_of_no_places(self):
        desk = Desk()
        for row, due in zip(ASKING, ("none", "0", "none", "none", "none", "none", "none")):
            self.say(desk, row, due)
        with self.assertRaises(NoPlace):
            desk.say("line 0 0 a")

    def test_a_triangle(self):
        desk = Desk()
        self.say(desk, "places 3", "ok")
        self.say(desk, "wants", "0 0 0")
        self.say(desk, "line 0 1 a", "0")
        self.say(desk, "line 1 2 b", "1")
        self.say(desk, "line 2 0 c", "2")
        self.say(desk, "wants", "0 0 0")
        self.say(desk, "fewest", "1")
        self.say(desk, "riding", "!" + ride_text(riding(TRIANGLE)[0][1]))
        self.say(desk, "paper", "none")
        self.say(desk, "round", "0+ 1+ 2+")
        self.say(desk, "from 1+ *", "1+ 2+ 0+")
        self.say(desk, "from * 1-", "0- 2- 1-")
        self.say(desk, "from 2- 0-", "2- 1- 0-")
        self.say(desk, "from 0+ 1+", "none")
        self.say(desk, "from * *", "0+ 1+ 2+")
        self.say(desk, "new d", "none")
        self.say(desk, "line 0 0 c", "3")
        self.say(desk, "wants", "2 0 0")
        self.say(desk, "paper", "0:c")
        self.say(desk, "round", "none")
        self.say(desk, "new d", "0-0")

    def test_shut_paint_and_merge(self):
        desk = desk_of(TRIANGLE)
        self.say(desk, "paint 1 a", "ok")
        self.say(desk, "wants", "0 2 0")
        self.say(desk, "round", "none")
        self.say(desk, "from * *", "0- 2- 1-")
        self.say(desk, "merge c b", "ok")
        self.say(desk, "new c", "1-1")
        self.say(desk, "shut 0", "ok")
        self.say(desk, "wants", "1 1 0")
        self.say(desk, "paper", "0:b 1:a")
        self.say(desk, "line 0 1 c", "2")
        self.say(desk, "round", "0+ 1+ 2+")
        self.say(desk, "merge b b", "ok")
        self.say(desk, "merge x y", "ok")
        self.say(desk, "round", "0+ 1+ 2+")
        self.say(desk, "merge a c", "ok")
        self.say(desk, "round", "none")

    def test_rides_and_rounds_of_a_riding(self):
        web = (4, ((0, 0, "a"), (0, 0, "b"), (1, 2, "a"), (2, 3, "a")))
        desk = desk_of(web)
        told = desk.say("riding").split("; ")
        self.assertEqual(len(told), 3)
        self.assertEqual([way[0] == "!" for way in told], [True, False, False])
        self.assertTrue(round_is(web, read_ride(told[0][1:])))
        for way in told[1:]:
            self.assertTrue(ride_is(web, read_ride(way)))
        self.say(desk, "fewest", "3")
        self.say(desk, "wants", "0 1 2 1")
        self.say(desk, "new c", " ".join(f"{one}-{other}" for one, other, _ in new_lines(web, "c")))

    def test_papers_with_odd_places(self):
        desk = desk_of((4, ((0, 1, "a"), (0, 2, "b"), (0, 3, "c"))))
        self.say(desk, "wants", "1 1 1 1")
        told = desk.say("paper").split(" ")
        self.assertEqual(told[0], "0:odd")
        self.assertEqual(len(told), 4)
        self.assertEqual(desk.say("fewest"), "2")

    def test_webs_told_row_by_row(self):
        webs = [web for web in WEBS if web != FULL]
        webs += [mixed_web(seed, 1 + seed % 24, seed, "abcdefg") for seed in range(0, 61, 4)]
        webs += [round_web(seed, 1 + seed % 24, 20 + seed * 2, "abc")[0] for seed in range(20)]
        for web in webs:
            self.assertEqual(heard(desk_of(web)), due_of(web), web)

    def test_lines_are_numbered(self):
        desk = Desk()
        desk.say("places 24")
        for number, (one, other, company) in enumerate(FULL[1]):
            self.say(desk, f"line {one} {other} {company}", str(number))

    def test_all_told_ends(self):
        web = (3, ((0, 1, "a"), (1, 2, "b"), (2, 0, "a"), (0, 0, "b")))
        desk = desk_of(web)
        words = {None: "*"} | {(number, side): f"{number}{'+-'[side]}" for number in range(4) for side in (0, 1)}
        some = 0
        for first in words:
            for last in words:
                due = ride_by(web, first=first, last=last)
                self.say(desk, f"from {words[first]} {words[last]}", "none" if due is None else ride_text(due))
                some += due is not None
        self.assertGreater(some, 5)

    def test_places_begin_anew(self):
        desk = desk_of(TRIANGLE)
        self.say(desk, "places 2", "ok")
        self.say(desk, "wants", "0 0")
        self.say(desk, "riding", "none")
        self.say(desk, "line 0 1 q", "0")
        self.say(desk, "places 0", "ok")
        self.say(desk, "wants", "none")
        self.say(desk, "places 0", "ok")

    def test_asking_changes_nothing(self):
        for web in (EMPTY, LONELY, LOOP, SIDE_BY_SIDE, TWO_PARTS, ONE_COMPANY):
            desk = desk_of(web)
            due = due_of(web)
            for _ in range(3):
                self.assertEqual(heard(desk), due)
            for _ in range(len(web[1]) + 1):
                self.say(desk, "undo", "ok")
            with self.assertRaises(NoneYet):
                desk.say("undo")


class Undo(unittest.TestCase):
    def test_one_by_one_down_to_nothing(self):
        rows = ["places 4", "line 0 1 a", "line 1 2 b", "paint 0 c", "line 2 3 b", "merge b a", "merge a a", "shut 1"]
        rows += ["paint 0 a", "line 3 3 c", "shut 0", "places 2", "line 0 0 a", "paint 0 a", "merge x y", "places 0"]
        desk = Desk()
        before = []
        for row in rows:
            before.append(heard(desk))
            self.assertIn(desk.say(row), ("ok", "0", "1", "2"))
        for due in reversed(before):
            self.assertEqual(desk.say("undo"), "ok")
            self.assertEqual(heard(desk), due)
        for _ in range(2):
            with self.assertRaises(NoneYet):
                desk.say("undo")
            self.assertEqual(heard(desk), heard(Desk()))

    def test_an_undo_is_not_undone(self):
        desk = desk_of(LOOP)
        self.assertEqual(desk.say("undo"), "ok")
        self.assertEqual(desk.say("wants"), "0")
        self.assertEqual(desk.say("undo"), "ok")
        self.assertEqual(desk.say("wants"), "none")

    def test_on_from_what_was_undone(self):
        desk = desk_of(TRIANGLE)
        desk.say("undo")
        self.assertEqual(desk.say("line 2 0 b"), "2")
        self.assertEqual(desk.say("wants"), "0 0 2")
        desk.say("undo")
        self.assertEqual(desk.say("wants"), "1 0 1")
        desk.say("undo")
        self.assertEqual(desk.say("line 1 0 b"), "1")
        self.assertEqual(desk.say("round"), "0+ 1+")

    def test_what_changes_nothing_is_undone_all_the_same(self):
        desk = desk_of(LOOP)
        for row in ("paint 0 a", "merge a a", "merge q r"):
            self.assertEqual(desk.say(row), "ok")
        for _ in range(3):
            self.assertEqual(desk.say("undo"), "ok")
            self.assertEqual(desk.say("wants"), "2")
        self.assertEqual(desk.say("undo"), "ok")
        self.assertEqual(desk.say("wants"), "0")

    def test_nothing_to_undo(self):
        desk = Desk()
        with self.assertRaises(NoneYet):
            desk.say("undo")
        for row in ASKING:
            desk.say(row)
        with self.assertRaises(RideError):
            desk.say("line 0 0 a")
        with self.assertRaises(NoneYet):
            desk.say("undo")


class Refused(unittest.TestCase):
    def refused(self, refusal, desk, row):
        with self.assertRaises(refusal, msg=repr(row)):
            desk.say(row)

    def changes_nothing(self, web, refusal, rows):
        """Each of the rows is refused, and neither the web nor what can be undone is another one then."""
        desk = desk_of(web)
        due = heard(desk)
        for row in rows:
            self.refused(refusal, desk, row)
            self.assertEqual(heard(desk), due, row)
        for _ in range(len(web[1])):
            self.assertEqual(desk.say("undo"), "ok")
        self.assertEqual(heard(desk), due_of((web[0], ())))
        self.assertEqual(desk.say("undo"), "ok")
        self.refused(NoneYet, desk, "undo")

    def test_no_form(self):
        for web in (EMPTY, TRIANGLE):
            self.changes_nothing(web, NoForm, NO_FORMS)

    def test_no_text(self):
        endless = []
        endless.append(endless)
        for web in (EMPTY, TRIANGLE):
            self.changes_nothing(web, NoForm, NO_ROWS + (endless,))

    def test_signs_that_only_look_alike(self):
        rows = ("places \u0661", "places \u00b2", "line 0 1 \u0430", "line \uff10 1 a", "shut \u0660", "from \u0660+ *")
        self.changes_nothing(TRIANGLE, NoForm, rows + ("wants\u00a0", "wants\r", "places\u20031", "from 0\u2212 *"))

    def test_no_place(self):
        self.changes_nothing(TRIANGLE, NoPlace, ("line 0 3 a", "line 3 0 a", "line 9 9 z", f"line 0 {10 ** 29} a"))
        self.changes_nothing(EMPTY, NoPlace, ("line 0 0 a", "line 0 1 b"))

    def test_no_line(self):
        self.changes_nothing(TRIANGLE, NoLine, ("shut 3", "shut 10", "paint 3 a", f"paint {10 ** 29} z", f"shut {10 ** 29}"))
        self.changes_nothing(LONELY, NoLine, ("shut 0", "paint 0 a"))

    def test_no_end(self):
        self.changes_nothing(TRIANGLE, NoEnd, ("from 3+ *", "from * 3-", "from 0+ 3+", "from 3- 0-", f"from * {10 ** 29}+"))
        self.changes_nothing(EMPTY, NoEnd, ("from 0+ *", "from * 0-", "from 0+ 0+"))

    def test_no_company(self):
        self.changes_nothing(TRIANGLE, NoCompany, ("new a", "new b", "new c"))
        self.changes_nothing(SIDE_BY_SIDE, NoCompany, ("new a", "new b"))

    def test_no_form_goes_ahead_of_all_others(self):
        self.changes_nothing(EMPTY, NoForm, ("line 9 9 A", "line 9 x a", "shut 9 9", "paint 9 A", "from 9+ 9", "from 9 9+"))

    def test_a_company_of_old_may_be_new_again(self):
        desk = desk_of(LOOP)
        self.refused(NoCompany, desk, "new a")
        desk.say("paint 0 b")
        self.assertEqual(desk.say("new a"), "0-0")
        self.refused(NoCompany, desk, "new b")
        desk.say("undo")
        self.refused(NoCompany, desk, "new a")


class Desks(unittest.TestCase):
    def test_two_know_nothing_of_each_other(self):
        one, other = Desk(), Desk()
        one.say("places 3")
        self.assertEqual(other.say("wants"), "none")
        with self.assertRaises(NoneYet):
            other.say("undo")
        other.say("places 2")
        self.assertEqual(one.say("line 0 2 a"), "0")
        self.assertEqual(other.say("line 0 1 b"), "0")
        self.assertEqual(one.say("wants"), "1 0 1")
        self.assertEqual(other.say("wants"), "1 1")
        one.say("undo")
        self.assertEqual(other.say("wants"), "1 1")
        self.assertEqual(one.say("wants"), "0 0 0")
        one.say("undo")
        with self.assertRaises(NoneYet):
            one.say("undo")
        self.assertEqual(other.say("undo"), "ok")
        self.assertEqual(other.say("wants"), "0 0")

    def test_told_the_same_they_tell_the_same(self):
        for web in (FULL, ALL_AT_ONE, TWO_PARTS):
            one, other = desk_of(web), desk_of(web)
            for row in ASKING[:6]:
                self.assertEqual(one.say(row), other.say(row))

    def test_long_scripts(self):
        """Held against what the stages make of the same rows."""
        for seed in range(12):
            chance = random.Random(seed)
            desk, web, before = Desk(), (0, ()), []
            for row in some_rows(chance, 150):
                try:
                    following, due = changed_by_hand(web, before, row)
                except RideError as refusal:
                    with self.assertRaises(type(refusal), msg=row):
                        desk.say(row)
                else:
                    self.assertEqual(desk.say(row), due, row)
                    web = following
                if chance.random() < 0.2:
                    self.assertEqual(heard(desk), due_of(web))
            self.assertEqual(heard(desk), due_of(web))
            while before:
                self.assertEqual(desk.say("undo"), "ok")
                self.assertEqual(heard(desk), due_of(before.pop()))
            with self.assertRaises(NoneYet):
                desk.say("undo")


def some_rows(chance, many):
    """Rows that change a web, most of them rightly."""
    yield "places 5"
    for _ in range(many):
        one, other = chance.randrange(6), chance.randrange(6)
        company, second = chance.choice("abcd"), chance.choice("abcd")
        number = chance.randrange(12)
        lines = [f"line {one} {other} {company}"] * 6
        others = [f"shut {number}", f"paint {number} {company}", f"merge {company} {second}", "undo", "undo"]
        yield chance.choice(lines + others + ([f"places {one}"] if chance.random() < 0.2 else []))


def changed_by_hand(web, before, row):
    """The web as the row makes it, and the answer."""
    word, *more = row.split(" ")
    if word == "undo":
        if not before:
            raise NoneYet
        return before.pop(), "ok"
    if word == "places":
        following = (int(more[0]), ())
    elif word == "line":
        following = with_line(web, int(more[0]), int(more[1]), more[2])
    elif word == "shut":
        following = without_line(web, int(more[0]))
    elif word == "paint":
        following = painted(web, int(more[0]), more[1])
    else:
        following = merged(web, *more)
    before.append(web)
    return following, str(len(web[1])) if word == "line" else "ok"


class Whole(unittest.TestCase):
    def test_what_is_told_holds_together(self):
        for seed in range(30):
            web = mixed_web(seed, 1 + seed % 24, 1 + seed * 2, "abcde")
            desk = desk_of(web)
            ways = [("round", read_ride(way[1:])) if way[0] == "!" else ("ride", read_ride(way)) for way in
                    desk.say("riding").split("; ")]
            self.assertTrue(riding_is(web, ways))
            self.assertEqual(str(len(ways)), desk.say("fewest"))
            words = [] if desk.say("paper") == "none" else desk.say("paper").split(" ")
            paper = [(int(word.split(":")[0]), word.split(":")[1]) for word in words]
            self.assertEqual(str(shown_by(web, paper)), desk.say("fewest"))
            new = desk.say("new z")
            for one, other in [] if new == "none" else [pair.split("-") for pair in new.split(" ")]:
                desk.say(f"line {one} {other} z")
            self.assertNotEqual(desk.say("round"), "none")
            self.assertEqual(desk.say("fewest"), "1")


if __name__ == "__main__":
    unittest.main()
