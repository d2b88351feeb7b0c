"""Point 2: what is handed in stays and is not kept, told lists are the asker's own, the same is told again."""

import copy
import unittest

from changeride.added import new_lines, new_needed
from changeride.errors import RideError
from changeride.rides import about, begun_at, least_round, made_one, places_of, ride_is, round_is
from changeride.riding import fewest, paper_of, riding, riding_is, shown_by
from changeride.texts import read_ride, read_web, ride_text, web_text
from changeride.told import one_ride, ride_by, round_of
from changeride.turnings import all_rounds, heaps, row_to, turned, turnings
from changeride.wants import plan_at, plan_shows, plans_counted, want_at, wants
from changeride.webs import ends_at, loosened, merged, painted, parts_of, web_of, with_line, without_line
from tests.samples import ALL_AT_ONE, FULL, TRIANGLE, TWO_PARTS, WEBS, all_lists, all_tuples, knot

PLAN = [[[[0, 0], [2, 1]]], []]
AROUND = [[0, 0], [1, 0], [2, 0]]
RIDING = [["ride", [[0, 0], [1, 0]]], ["ride", [[2, 1]]]]


def ride_between(web, first, last):
    return ride_by(web, first=first, last=last)


def made_one_beside(web, one, other):
    """Two rounds made one in the web with the triangle beside itself once more."""
    places, lines = web
    return made_one((places, tuple(tuple(line) for line in lines) * 2), one, other)


def at_one_place(web):
    """The web with all its places one."""
    return 1, [(0, 0, line[2]) for line in web[1]]


def turnings_at_one_place(web, ride):
    return turnings(at_one_place(web), ride)


def turned_at_one_place(web, ride, turning):
    return turned(at_one_place(web), ride, turning)


def row_at_one_place(web, one, other):
    return row_to(at_one_place(web), one, other)


def rounds_at_one_place(web):
    return all_rounds(at_one_place(web))


def text_of_ride(_, ride):
    return ride_text(ride)


# Each function with what it is asked of the triangle, rightly and wrongly.
ASKED = (
    (ends_at, (0,)),
    (ends_at, (3,)),
    (parts_of, ()),
    (with_line, (0, 2, "a")),
    (with_line, (0, 3, "A")),
    (without_line, (1,)),
    (without_line, (None,)),
    (painted, (1, "a")),
    (painted, (1, "A")),
    (merged, ("a", "b")),
    (merged, ("a", "B")),
    (loosened, ([1, 0],)),
    (loosened, ([1, 2],)),
    (want_at, (0,)),
    (want_at, (True,)),
    (wants, ()),
    (plan_at, (0,)),
    (plan_at, ("0",)),
    (plan_shows, (0, PLAN)),
    (plan_shows, (0, [[[[0, 0]]], [[2, 1]]])),
    (plan_shows, (9, PLAN)),
    (plans_counted, (0,)),
    (plans_counted, (-1,)),
    (ride_is, (AROUND,)),
    (ride_is, ([[0, 0], [2, 0]],)),
    (ride_is, ([AROUND],)),
    (round_is, (AROUND,)),
    (round_is, (AROUND[:2],)),
    (places_of, (AROUND,)),
    (places_of, ([[0, 0], [0, 0]],)),
    (about, (AROUND,)),
    (about, ([],)),
    (begun_at, (AROUND, 0)),
    (begun_at, (AROUND, 2)),
    (begun_at, (AROUND, 3)),
    (begun_at, (AROUND[:2], 3)),
    (least_round, (AROUND[1:] + AROUND[:1],)),
    (least_round, (AROUND[1:],)),
    (made_one, (AROUND, AROUND)),
    (made_one_beside, (AROUND, [[4, 0], [5, 0], [3, 0]])),
    (made_one_beside, (AROUND, [[4, 0], [5, 0], [0, 0]])),
    (riding_is, (RIDING,)),
    (riding_is, ([["round", AROUND]],)),
    (riding_is, (RIDING + RIDING,)),
    (fewest, ()),
    (riding, ()),
    (shown_by, ([],)),
    (shown_by, ([[0, "a"]],)),
    (paper_of, ()),
    (ride_between, ([0, 0], [2, 0])),
    (ride_between, (None, [1, 0])),
    (ride_between, ([0, 0], None)),
    (ride_between, ([0, 0], [1, 0])),
    (ride_between, ([0, 0], [3, 0])),
    (round_of, ()),
    (one_ride, ()),
    (new_needed, ()),
    (new_lines, ("d",)),
    (new_lines, ("a",)),
    (new_lines, ("D",)),
    (turnings, (AROUND,)),
    (turnings, (AROUND[:2],)),
    (turnings_at_one_place, (AROUND,)),
    (turned, (AROUND, [0, 1])),
    (turned, (AROUND[1:], [0, 1])),
    (turned_at_one_place, (AROUND, [0, 1])),
    (turned_at_one_place, (AROUND, [0, 1, 1, 2])),
    (turned_at_one_place, (AROUND, [0, 1, 2])),
    (all_rounds, ()),
    (rounds_at_one_place, ()),
    (row_to, (AROUND, [[2, 1], [1, 1], [0, 1]])),
    (row_to, (AROUND, AROUND[:1])),
    (row_at_one_place, (AROUND, [[0, 0], [2, 1], [1, 1]])),
    (heaps, ()),
    (web_text, ()),
    (text_of_ride, (AROUND,)),
    (text_of_ride, ([],)),
)


def answer(function, arguments):
    try:
        return function(*arguments)
    except RideError as refusal:
        return refusal.__class__.__name__


def spoil(thing):
    """Changes every list in it, from within."""
    if isinstance(thing, (list, tuple)):
        for one in thing:
            spoil(one)
    if isinstance(thing, list):
        thing.reverse()
        thing.append("spoilt")
        del thing[0]


class HandedIn(unittest.TestCase):
    def test_it_stays(self):
        for function, more in ASKED:
            arguments = [all_lists(TRIANGLE)] + [copy.deepcopy(one) for one in more]
            before = copy.deepcopy(arguments)
            answer(function, arguments)
            self.assertEqual(repr(arguments), repr(before), function.__name__)

    def test_web_of_leaves_its_lists(self):
        lines = [[0, 1, "a"], [1, 1, "b"]]
        web_of(2, lines)
        self.assertEqual(lines, [[0, 1, "a"], [1, 1, "b"]])

    def test_it_is_not_kept(self):
        for web in WEBS:
            lines = all_lists(web[1])
            told = web_of(web[0], lines)
            spoil(lines)
            self.assertEqual(repr(told), repr(web))

    def test_webs_made_keep_nothing_of_it(self):
        for function, more in ASKED:
            arguments = [all_lists(TRIANGLE)] + [copy.deepcopy(one) for one in more]
            told = answer(function, arguments)
            due = repr(told)
            spoil(arguments)
            self.assertEqual(repr(told), due, function.__name__)

    def test_lists_and_tuples_are_the_same(self):
        for function, more in ASKED:
            due = repr(answer(function, [TRIANGLE, *more]))
            self.assertEqual(repr(answer(function, [all_lists(TRIANGLE), *more])), due, function.__name__)
            self.assertEqual(repr(answer(function, [list(TRIANGLE), *more])), due, function.__name__)
            self.assertEqual(repr(answer(function, [TRIANGLE, *all_tuples(more)])), due, function.__name__)


class ToldLists(unittest.TestCase):
    def test_changed_they_change_nothing(self):
        for web in WEBS:
            for function in (parts_of, wants, riding, paper_of, round_of, one_ride):
                self.told_again(function, (web,))
            if web != FULL:
                self.told_again(new_lines, (web, "z"))
            for function in (ends_at, plan_at):
                for place in range(web[0]):
                    self.told_again(function, (web, place))

    def test_changed_rides_change_nothing(self):
        ring = round_of(ALL_AT_ONE)
        for function in (places_of, about, least_round):
            self.told_again(function, (ALL_AT_ONE, ring))
        self.told_again(begun_at, (ALL_AT_ONE, ring, 0))
        self.told_again(begun_at, (ALL_AT_ONE, ring, 30))
        self.told_again(ride_between, (ALL_AT_ONE, ring[0], ring[-1]))
        self.told_again(made_one, (knot("abab"), [(0, 0), (1, 0)], [(2, 0), (3, 0)]))

    def test_changed_turnings_and_rounds_change_nothing(self):
        for companies in ("ab", "abc", "abcd", "aabbc"):
            web = knot(companies)
            rounds = all_rounds(web)
            self.told_again(all_rounds, (web,))
            self.told_again(turnings, (web, rounds[0]))
            for turning in turnings(web, rounds[0]):
                self.told_again(turned, (web, rounds[0], turning))
            for other in rounds[::5]:
                self.told_again(row_to, (web, rounds[0], other))

    def test_all_rounds_are_lists_of_their_own(self):
        rounds = all_rounds(knot("abcd"))
        due = repr(rounds[1:])
        spoil(rounds[0])
        self.assertEqual(repr(rounds[1:]), due)

    def test_changed_read_texts_change_nothing(self):
        self.told_again(read_ride, ("0+ 1- 2+",))
        self.told_again(read_ride, ("",))
        self.told_again(read_web, ("places 2\nline 0 1 a",))

    def test_told_is_not_what_was_handed_in(self):
        ring = [(0, 0), (1, 0), (2, 0)]
        for told in (begun_at(TRIANGLE, ring, 0), least_round(TRIANGLE, ring)):
            self.assertEqual(told, ring)
            self.assertIsNot(told, ring)

    def told_again(self, function, arguments):
        due = repr(function(*arguments))
        first = function(*arguments)
        second = function(*arguments)
        spoil(first)
        self.assertEqual(repr(second), due)
        self.assertEqual(repr(function(*arguments)), due)

    def test_lists_within_one_told_list_are_not_shared(self):
        for web in WEBS:
            for place in range(web[0]):
                pairs, alone = plan_at(web, place)
                self.assertIsNot(pairs, alone)
        parts = parts_of(TWO_PARTS)
        parts[0].append(9)
        self.assertEqual(parts[1], [1, 3, 4])

    def test_webs_are_tuples_throughout(self):
        handed = all_lists(TRIANGLE)
        made = [
            web_of(*handed),
            with_line(handed, 0, 0, "a"),
            without_line(handed, 0),
            painted(handed, 0, "z"),
            merged(handed, "a", "b"),
            merged(handed, "a", "a"),
            loosened(handed, [0, 0]),
            read_web(web_text(handed)),
        ]
        for web in made:
            self.assertEqual(repr(web), repr(all_tuples(web)))


class AskedAgain(unittest.TestCase):
    def test_the_same_is_told(self):
        due = [repr(answer(function, (TRIANGLE, *more))) for function, more in ASKED]
        for web in (FULL, TWO_PARTS, TRIANGLE):
            for function, more in reversed(ASKED):
                answer(function, (web, *more))
        self.assertEqual([repr(answer(function, (TRIANGLE, *more))) for function, more in ASKED], due)

    def test_big_numbers_are_taken(self):
        big = 10 ** 30 - 1
        for function, more in ((ends_at, ()), (want_at, ()), (plan_at, ()), (plans_counted, ()), (plan_shows, (0,))):
            for number in (big, -big):
                self.assertEqual(answer(function, (FULL, number, *more)), "NoPlace")
        self.assertEqual(answer(without_line, (FULL, big)), "NoLine")
        self.assertEqual(answer(loosened, (FULL, (big, 0))), "NoEnd")
        self.assertEqual(answer(web_of, (big, [(big - 1, 0, "a")])), (big, ((big - 1, 0, "a"),)))


if __name__ == "__main__":
    unittest.main()
