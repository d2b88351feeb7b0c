"""Points 16 and 17: the least rides and rounds along all lines. And point 4, as far as it speaks of them."""

import itertools
import unittest

from changeride.errors import NoEnd, NoWeb
from changeride.rides import about, begun_at, least_round, places_of, ride_is, round_is
from changeride.riding import fewest, riding, riding_is
from changeride.told import one_ride, ride_by, round_of
from changeride.wants import wants
from changeride.webs import ends_at, loosened, parts_of, with_line
from tests.samples import (
    ALL_AT_ONE,
    EMPTY,
    FULL,
    LONELY,
    LOOP,
    NO_ENDS,
    NO_NUMBERS,
    NO_WEBS,
    ONE_COMPANY,
    SIDE_BY_SIDE,
    TRIANGLE,
    TWO_PARTS,
    WEBS,
    all_ends,
    all_lists,
    follows,
    knot,
    mixed_web,
    rides_along_all,
    round_web,
    rounds_along_all,
    star,
    webs_in_order,
    webs_of,
)

CHAIN = (4, ((1, 2, "b"), (0, 1, "a"), (3, 2, "a")))
SEEDS = 40


def small_webs():
    for places, many, companies in ((1, 3, "abc"), (2, 2, "abc"), (2, 3, "ab"), (3, 2, "ab"), (1, 4, "ab")):
        yield from webs_in_order(places, many, companies)
    for places, many, companies in ((1, 4, "abc"), (2, 4, "ab"), (3, 3, "ab")):
        yield from webs_of(places, many, companies)
    for seed in range(SEEDS):
        yield round_web(seed, 1 + seed % 4, 4 + seed % 3, "abc")[0]
        yield mixed_web(seed, 1 + seed % 3, 5, "abc")
    yield from (EMPTY, LONELY, LOOP, SIDE_BY_SIDE, TRIANGLE, ONE_COMPANY, TWO_PARTS, CHAIN)


def great_webs():
    """Webs up to twenty-four places and sixty lines that have a round, and the same with an end loosened."""
    for seed in range(SEEDS):
        web, _ = round_web(seed, 1 + seed % 24, 60 - seed % 20, ("abc", "abcdefgh")[seed % 2])
        yield web
        yield loosened(web, (seed % 40, seed % 2))
    yield ALL_AT_ONE
    yield knot("a" * 30 + "b" * 30)
    yield knot("a" * 30 + "b" * 29)
    yield 24, tuple((k, k + 1, "ab"[k % 2]) for k in range(23))


def least(rides):
    return min(rides, default=None)


class Told(unittest.TestCase):
    def same(self, told, due, *asked):
        self.assertEqual(repr(told), repr(due), asked)


class RideBy(Told):
    def test_ordinary(self):
        self.same(ride_by(TRIANGLE, first=(0, 0), last=(2, 0)), [(0, 0), (1, 0), (2, 0)])
        self.same(ride_by(TRIANGLE, first=(1, 0), last=(0, 0)), [(1, 0), (2, 0), (0, 0)])
        self.same(ride_by(TRIANGLE, first=(0, 1), last=(1, 1)), [(0, 1), (2, 1), (1, 1)])
        self.same(ride_by(TRIANGLE, first=(0, 0), last=(1, 0)), None)
        self.same(ride_by(SIDE_BY_SIDE, first=(1, 0), last=(0, 0)), [(1, 0), (2, 0), (0, 0)])
        self.same(ride_by(SIDE_BY_SIDE, first=(2, 0)), None)
        self.same(ride_by(CHAIN), [(1, 0), (0, 0), (2, 1)])
        self.same(ride_by(CHAIN, first=(2, 0)), [(2, 0), (0, 1), (1, 1)])
        self.same(ride_by(CHAIN, last=(2, 1)), [(1, 0), (0, 0), (2, 1)])
        self.same(ride_by(CHAIN, last=(2, 0)), None)

    def test_one_line(self):
        web = (2, ((1, 0, "a"),))
        for one in (LOOP, web):
            for end in ((0, 0), (0, 1)):
                self.same(ride_by(one, first=end, last=end), [end])
                self.same(ride_by(one, first=end), [end])
                self.same(ride_by(one, last=end), [end])
            self.same(ride_by(one, first=(0, 0), last=(0, 1)), None)
            self.same(ride_by(one, first=(0, 1), last=(0, 0)), None)
            self.same(ride_by(one), [(0, 0)])

    def test_the_same_line_first_and_last(self):
        for web in (TRIANGLE, SIDE_BY_SIDE, CHAIN, knot("ab"), knot("abc")):
            for number in range(len(web[1])):
                for one, other in itertools.product((0, 1), repeat=2):
                    self.same(ride_by(web, first=(number, one), last=(number, other)), None)

    def test_from_and_to_one_place_no_change_is_asked(self):
        web = (3, ((0, 1, "a"), (1, 2, "b"), (2, 0, "a")))
        told = ride_by(web, first=(0, 0), last=(2, 0))
        self.same(told, [(0, 0), (1, 0), (2, 0)])
        self.assertFalse(round_is(web, told))
        self.same(ride_by(web, first=(1, 0)), None)

    def test_a_bridge_is_not_gone_along_too_soon(self):
        # Line 0 leads away from where the rest hangs together, and is the least one at the beginning.
        web = (3, ((0, 1, "c"), (0, 0, "a"), (0, 2, "a"), (2, 0, "b"), (0, 0, "d")))
        told = ride_by(web)
        self.same(told, least(rides_along_all(web)))
        self.same(ride_by(web, last=(0, 0)), least(ride for ride in rides_along_all(web) if ride[-1] == (0, 0)))
        self.assertIsNotNone(told)

    def test_no_lines(self):
        for web in (EMPTY, LONELY):
            self.same(ride_by(web), None)
            self.same(ride_by(web, first=None, last=None), None)

    def test_parts_have_no_ride_together(self):
        for first in (None, (0, 0), (1, 0)):
            for last in (None, (2, 0), (4, 1)):
                self.same(ride_by(TWO_PARTS, first=first, last=last), None)
        self.same(ride_by((4, ((0, 1, "a"), (2, 3, "a")))), None)

    def test_left_out_or_none_and_in_any_order(self):
        due = [(0, 0), (1, 0), (2, 0)]
        self.same(ride_by(TRIANGLE), due)
        self.same(ride_by(TRIANGLE, first=None), due)
        self.same(ride_by(TRIANGLE, last=None), due)
        self.same(ride_by(TRIANGLE, last=None, first=None), due)
        self.same(ride_by(TRIANGLE, last=(2, 0), first=None), due)
        self.same(ride_by(TRIANGLE, last=None, first=(0, 0)), due)
        self.same(ride_by(TRIANGLE, last=(2, 0), first=(0, 0)), due)
        with self.assertRaises(TypeError):
            ride_by(TRIANGLE, (0, 0), (2, 0))

    def test_lists_are_taken(self):
        self.same(ride_by(all_lists(TRIANGLE), first=[1, 0], last=[0, 0]), [(1, 0), (2, 0), (0, 0)])
        self.same(ride_by(LOOP, first=[0, 1], last=(0, 1)), [(0, 1)])

    def test_all_rides_of_small_webs(self):
        for web in small_webs():
            rides = rides_along_all(web)
            ends = [None] + all_ends(web)
            due = {}
            for ride in rides:
                for first, last in itertools.product((None, ride[0]), (None, ride[-1])):
                    due[first, last] = min(ride, due.get((first, last), ride))
            for first, last in itertools.product(ends, repeat=2):
                self.same(ride_by(web, first=first, last=last), due.get((first, last)), web, first, last)

    def test_great_webs(self):
        for web in great_webs():
            told = ride_by(web)
            if told is None:
                continue
            self.assertTrue(riding_is(web, [("ride", told)]))
            self.same(ride_by(web, first=told[0], last=told[-1]), told)
            back = ride_by(web, first=about(web, told)[0], last=about(web, told)[-1])
            self.assertTrue(riding_is(web, [("ride", back)]))
            self.assertLessEqual(back, about(web, told))
            self.same(ride_by(web, first=told[0]), told)
            self.assertEqual(ride_by(web, last=told[-1])[0], told[0])

    def test_each_end_of_great_webs(self):
        for seed in range(6):
            web, ring = round_web(seed, 5 + seed, 24, "abc")
            for number in range(24):
                begun = begun_at(web, ring, number)
                told = ride_by(web, first=begun[0], last=begun[-1])
                self.assertTrue(riding_is(web, [("ride", told)]))
                self.assertLessEqual(told, begun)
                self.assertLessEqual(ride_by(web, first=begun[0]), told)
                self.assertLessEqual(ride_by(web, last=begun[-1]), told)


class Refused(unittest.TestCase):
    def test_no_end(self):
        for end in NO_ENDS + ((3, 0), [3, 1], (10 ** 29, 1)):
            if end is not None:
                for more in ({}, {"last": None}, {"last": (2, 0)}, {"last": [9, 9]}, {"last": False}):
                    with self.assertRaises(NoEnd, msg=repr(end)):
                        ride_by(TRIANGLE, first=end, **more)
                for more in ({}, {"first": None}, {"first": (0, 0)}, {"first": [9, 9]}, {"first": False}):
                    with self.assertRaises(NoEnd, msg=repr(end)):
                        ride_by(TRIANGLE, last=end, **more)

    def test_no_end_where_there_is_no_ride_either(self):
        for web in (EMPTY, LONELY, TWO_PARTS, ONE_COMPANY):
            for end in ((9, 0), (0, 2), "", False):
                for asked in ({"first": end}, {"last": end}, {"first": end, "last": end}):
                    with self.assertRaises(NoEnd):
                        ride_by(web, **asked)
        for web in (EMPTY, LONELY):
            with self.assertRaises(NoEnd):
                ride_by(web, first=(0, 0))

    def test_truths_are_no_numbers(self):
        for end in ((False, 0), (0, False), (True, 0), (0, True), [False, False]):
            with self.assertRaises(NoEnd):
                ride_by(TRIANGLE, first=end)
            with self.assertRaises(NoEnd):
                ride_by(TRIANGLE, first=(0, 0), last=end)

    def test_what_is_no_web_goes_first(self):
        for web in NO_WEBS:
            for asked in ({}, {"first": (0, 0)}, {"last": 7}, {"first": 7, "last": (0, 0)}):
                with self.assertRaises(NoWeb):
                    ride_by(web, **asked)
            with self.assertRaises(NoWeb):
                round_of(web)
            with self.assertRaises(NoWeb):
                one_ride(web)

    def test_no_numbers_are_no_ends(self):
        for end in NO_NUMBERS:
            if end is not None:
                with self.assertRaises(NoEnd):
                    ride_by(LOOP, last=end)


class RoundOf(Told):
    def test_ordinary(self):
        self.same(round_of(TRIANGLE), [(0, 0), (1, 0), (2, 0)])
        self.same(round_of((2, ((0, 1, "a"), (0, 1, "b")))), [(0, 0), (1, 1)])
        self.same(round_of(knot("ab")), [(0, 0), (1, 0)])
        self.same(round_of((3, ((0, 1, "a"), (2, 1, "b"), (2, 0, "c")))), [(0, 0), (1, 1), (2, 0)])

    def test_none(self):
        for web in (EMPTY, LONELY, LOOP, SIDE_BY_SIDE, ONE_COMPANY, TWO_PARTS, FULL, CHAIN):
            self.same(round_of(web), None)
        self.same(round_of(knot("aab")), None)
        self.same(round_of((4, ((0, 1, "a"), (1, 0, "b"), (2, 3, "a"), (3, 2, "b")))), None)

    def test_places_that_no_line_comes_to_do_not_matter(self):
        self.same(round_of((24, TRIANGLE[1])), [(0, 0), (1, 0), (2, 0)])
        self.same(one_ride((24, TRIANGLE[1])), [(0, 0), (1, 0), (2, 0)])

    def test_it_changes_where_it_closes(self):
        # The least ride of all ends by a line of the company that it began with; the least round may not.
        web = knot("abac")
        self.same(round_of(web), least(rounds_along_all(web)))
        web = knot("aabb")
        self.same(round_of(web), [(0, 0), (2, 0), (1, 0), (3, 0)])
        web = (2, ((0, 0, "a"), (0, 1, "b"), (1, 0, "c"), (0, 0, "b"), (0, 0, "a")))
        self.same(round_of(web), least(rounds_along_all(web)))

    def test_all_rounds_of_small_webs(self):
        many = 0
        for web in small_webs():
            due = least(rounds_along_all(web))
            self.same(round_of(web), due, web)
            self.assertEqual(due is not None, sum(wants(web)) == 0 and len(parts_of(web)) == 1)
            many += due is not None
        self.assertGreater(many, 100)

    def test_great_webs(self):
        for web in great_webs():
            told = round_of(web)
            self.assertEqual(told is not None, sum(wants(web)) == 0 and len(parts_of(web)) == 1)
            if told is not None:
                self.assertTrue(riding_is(web, [("round", told)]))
                self.same(least_round(web, told), told)
                (_, other), = riding(web)
                self.assertLessEqual(told, least_round(web, other))
                self.assertLessEqual(one_ride(web), told)

    def test_a_known_round_is_not_less(self):
        for seed in range(SEEDS):
            web, ring = round_web(seed, 1 + seed % 24, 60, "abcd")
            told = round_of(web)
            self.assertTrue(riding_is(web, [("round", told)]))
            self.assertLessEqual(told, least_round(web, ring))


class OneRide(Told):
    def test_ordinary(self):
        self.same(one_ride(SIDE_BY_SIDE), [(0, 0), (2, 0), (1, 0)])
        self.same(one_ride(LOOP), [(0, 0)])
        self.same(one_ride(CHAIN), [(1, 0), (0, 0), (2, 1)])
        self.same(one_ride(TRIANGLE), [(0, 0), (1, 0), (2, 0)])

    def test_none(self):
        for web in (EMPTY, LONELY, ONE_COMPANY, TWO_PARTS, FULL, star("abc")):
            self.same(one_ride(web), None)

    def test_round_or_not(self):
        web = knot("aab")
        self.assertIsNone(round_of(web))
        self.same(one_ride(web), [(0, 0), (2, 0), (1, 0)])

    def test_all_rides_of_small_webs(self):
        many = 0
        for web in small_webs():
            due = least(rides_along_all(web))
            self.same(one_ride(web), due, web)
            self.assertEqual(due is not None, fewest(web) == 1, web)
            many += due is not None
        self.assertGreater(many, 1000)

    def test_great_webs(self):
        for web in great_webs():
            told = one_ride(web)
            self.assertEqual(told is not None, fewest(web) == 1)
            if told is not None:
                self.assertTrue(ride_is(web, told))
                self.assertEqual(sorted(number for number, _ in told), list(range(len(web[1]))))
                self.assertEqual(len(places_of(web, told)), len(web[1]) + 1)
            self.same(one_ride(all_lists(web)), told)

    def test_as_great_as_it_gets_without_a_ride(self):
        for seed in range(SEEDS):
            web = mixed_web(seed, 24, 60, "ab")
            self.assertEqual(one_ride(web) is not None, fewest(web) == 1)
            self.assertIsNone(round_of(web))

    def test_beyond_the_limits(self):
        web = with_line(ALL_AT_ONE, 0, 0, "z")
        self.assertEqual(len(round_of(web)), 61)
        self.assertEqual(len(one_ride(web)), 61)
        self.assertTrue(follows(web, round_of(web)[-1], round_of(web)[0]))
        self.assertEqual(len(ends_at(web, 0)), 122)


if __name__ == "__main__":
    unittest.main()
