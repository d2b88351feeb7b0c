"""Points 10, 11 and 12: rides, rounds, told otherwise, and made one."""

import itertools
import unittest

from changeride.errors import NoNumber, NoRide, NoWeb
from changeride.rides import about, begun_at, least_round, made_one, places_of, ride_is, round_is
from changeride.webs import loosened, painted, with_line, without_line
from tests.samples import (
    ALL_AT_ONE,
    EMPTY,
    FULL,
    LONELY,
    LOOP,
    NO_ENDS,
    NO_NUMBERS,
    NO_WEBS,
    ONE_COMPANY,
    SIDE_BY_SIDE,
    TRIANGLE,
    TWO_PARTS,
    all_ends,
    all_lists,
    all_rides,
    all_tuples,
    follows,
    round_web,
    webs_in_order,
    webs_of,
)

AROUND = [(0, 0), (1, 0), (2, 0)]
# Two loops at place 0, two lines between it and place 1, two loops at place 1, and a line that stands apart.
EIGHT = (
    4,
    ((0, 0, "a"), (0, 0, "b"), (0, 1, "a"), (1, 0, "b"), (1, 1, "a"), (1, 1, "b"), (2, 3, "c"), (3, 2, "d")),
)
NO_RIDES = (
    NO_NUMBERS
    + tuple([end] for end in NO_ENDS)
    + tuple([(0, 0), end] for end in NO_ENDS)
    + tuple([end, (1, 0)] for end in NO_ENDS)
    + (1, -1, "ride", b"ride", 10 ** 29, 1.5, {(0, 0)}, {(0, 0): 1}, {0: (0, 0)}, object(), [[[0, 0]]], [[(0, 0)]], (0, 0))
)


def small_rides():
    """Small webs, each with all its rides."""
    for web in itertools.chain(webs_of(2, 3, "ab"), webs_in_order(1, 3, "abc"), webs_of(2, 4, "ab")):
        yield web, list(all_rides(web))


class RideIs(unittest.TestCase):
    def both(self, web, ride, due, due_round):
        self.assertIs(ride_is(web, ride), due, (web, ride))
        self.assertIs(round_is(web, ride), due_round, (web, ride))

    def test_ordinary(self):
        self.both(TRIANGLE, [(0, 0)], True, False)
        self.both(TRIANGLE, [(0, 1)], True, False)
        self.both(TRIANGLE, [(0, 0), (1, 0)], True, False)
        self.both(TRIANGLE, AROUND, True, True)
        self.both(TRIANGLE, [(1, 1), (0, 1), (2, 1)], True, True)
        self.both(TWO_PARTS, [(2, 0), (0, 1)], True, False)

    def test_it_goes_on_where_it_came_to(self):
        self.both(TRIANGLE, [(0, 0), (2, 0)], False, False)
        self.both(TRIANGLE, [(0, 0), (1, 1)], False, False)
        self.both(TRIANGLE, [(0, 0), (1, 0), (2, 1)], False, False)
        self.both(TWO_PARTS, [(0, 0), (1, 0)], False, False)

    def test_it_changes(self):
        self.both(SIDE_BY_SIDE, [(0, 0), (1, 1)], False, False)
        self.both(SIDE_BY_SIDE, [(0, 0), (2, 0)], True, True)
        self.both(SIDE_BY_SIDE, [(0, 0), (2, 0), (1, 0)], True, False)
        self.both(painted(TRIANGLE, 1, "a"), AROUND, False, False)

    def test_each_line_once_at_most(self):
        self.both(TRIANGLE, [(0, 0), (0, 1)], False, False)
        self.both(TRIANGLE, AROUND + [(0, 0)], False, False)
        self.both(TRIANGLE, AROUND + AROUND, False, False)
        self.both(EIGHT, [(0, 0), (1, 0), (0, 0), (1, 1)], False, False)
        self.both(EIGHT, [(0, 0), (1, 0), (0, 1), (1, 1)], False, False)

    def test_one_line_at_least(self):
        for web in (EMPTY, LONELY, LOOP, TRIANGLE):
            self.both(web, [], False, False)
            self.both(web, (), False, False)

    def test_loops(self):
        self.both(LOOP, [(0, 0)], True, False)
        self.both(LOOP, [(0, 1)], True, False)
        self.both(EIGHT, [(0, 0), (1, 1)], True, True)
        self.both(EIGHT, [(0, 0), (1, 1), (2, 0), (5, 0)], True, False)

    def test_back_at_the_first_place_without_a_change_it_is_no_round(self):
        web = painted(TRIANGLE, 2, "a")
        self.both(web, AROUND, True, False)
        self.both(web, [(1, 0), (2, 0), (0, 0)], False, False)

    def test_a_round_comes_back_to_its_first_place(self):
        self.both((3, ((0, 1, "a"), (1, 2, "b"))), [(0, 0), (1, 0)], True, False)

    def test_lists_and_tuples_mixed(self):
        for ride in (tuple(AROUND), all_lists(tuple(AROUND)), [[0, 0], (1, 0), [2, 0]], ([0, 0], (1, 0), [2, 0])):
            for web in (TRIANGLE, all_lists(TRIANGLE), [3, TRIANGLE[1]], (3, all_lists(TRIANGLE[1]))):
                self.both(web, ride, True, True)

    def test_anything(self):
        endless = []
        endless.append(endless)
        for web in (EMPTY, LONELY, LOOP, SIDE_BY_SIDE, TRIANGLE):
            for thing in NO_RIDES + (endless, [endless], (endless, endless)):
                self.both(web, thing, False, False)

    def test_ends_that_the_web_has_not(self):
        for number in (3, -1, -3, 10 ** 29, -(10 ** 29)):
            self.both(TRIANGLE, [(number, 0)], False, False)
            self.both(TRIANGLE, [(0, 0), (number, 0)], False, False)
        for side in (2, -1, -2, 10 ** 29):
            self.both(TRIANGLE, [(0, side)], False, False)
        for web in (EMPTY, LONELY):
            self.both(web, [(0, 0)], False, False)

    def test_every_row_of_ends_of_small_webs(self):
        for web in itertools.chain(webs_of(2, 2, "ab"), webs_in_order(1, 3, "ab"), [TRIANGLE, SIDE_BY_SIDE]):
            rides = list(all_rides(web))
            for many in range(4):
                for row in itertools.product(all_ends(web), repeat=many):
                    due = list(row) in rides
                    self.both(web, list(row), due, due and follows(web, row[-1], row[0]))

    def test_many_lines(self):
        for many in (2, 40, 60, 90):
            web = (1, tuple((0, 0, "ab"[k % 2]) for k in range(many)))
            ride = [(k, k % 3 % 2) for k in range(many)]
            self.both(web, ride, True, True)
            self.both(web, ride[:-1], True, False)
            self.both(web, ride + ride[:1], False, False)
        self.both(ALL_AT_ONE, [(k % 60, 0) for k in range(300)], False, False)

    def test_what_is_no_web(self):
        for web in NO_WEBS:
            for function in (ride_is, round_is):
                for ride in ([(0, 0)], [], None):
                    with self.assertRaises(NoWeb, msg=repr(web)):
                        function(web, ride)


class Refused(unittest.TestCase):
    def refused(self, refusal, function, *arguments):
        with self.assertRaises(refusal, msg=repr((function.__name__, arguments))):
            function(*arguments)

    def test_no_ride(self):
        for ride in NO_RIDES + ([(0, 0), (2, 0)], [(0, 0), (0, 1)], AROUND + [(0, 0)]):
            for function in (places_of, about, least_round):
                self.refused(NoRide, function, TRIANGLE, ride)
                self.refused(NoRide, function, LONELY, ride)
            self.refused(NoRide, begun_at, TRIANGLE, ride, 0)
            self.refused(NoRide, made_one, TRIANGLE, ride, AROUND)
            self.refused(NoRide, made_one, TRIANGLE, AROUND, ride)
            self.refused(NoRide, made_one, TRIANGLE, ride, ride)

    def test_a_ride_that_is_no_round(self):
        for web, ride in ((TRIANGLE, [(0, 0)]), (LOOP, [(0, 0)]), (SIDE_BY_SIDE, [(0, 0), (2, 0), (1, 0)])):
            self.refused(NoRide, begun_at, web, ride, 0)
            self.refused(NoRide, least_round, web, ride)
            self.refused(NoRide, made_one, web, ride, ride)
        self.refused(NoRide, made_one, EIGHT, [(0, 0), (1, 0)], [(4, 0)])
        self.refused(NoRide, made_one, EIGHT, [(4, 0)], [(0, 0), (1, 0)])

    def test_no_number(self):
        for number in NO_NUMBERS + (3, -1, -3, 10 ** 29, -(10 ** 29)):
            self.refused(NoNumber, begun_at, TRIANGLE, AROUND, number)

    def test_no_ride_goes_ahead_of_no_number(self):
        for number in NO_NUMBERS + (3, -1):
            for ride in ([], None, [(0, 0)], [(0, 0), (2, 0)]):
                self.refused(NoRide, begun_at, TRIANGLE, ride, number)

    def test_what_is_no_web_goes_first(self):
        for web in NO_WEBS:
            for function in (places_of, about, least_round):
                self.refused(NoWeb, function, web, None)
                self.refused(NoWeb, function, web, AROUND)
            self.refused(NoWeb, begun_at, web, None, None)
            self.refused(NoWeb, made_one, web, None, None)

    def test_rounds_with_a_line_in_common(self):
        self.refused(NoRide, made_one, TRIANGLE, AROUND, AROUND)
        self.refused(NoRide, made_one, TRIANGLE, AROUND, about(TRIANGLE, AROUND))
        self.refused(NoRide, made_one, EIGHT, [(0, 0), (1, 0)], [(2, 0), (3, 0), (0, 0), (1, 0)])
        self.refused(NoRide, made_one, EIGHT, [(2, 0), (3, 0)], [(3, 1), (2, 1)])


class Otherwise(unittest.TestCase):
    def same(self, told, due):
        self.assertEqual(repr(told), repr(due))

    def test_places(self):
        self.same(places_of(TRIANGLE, AROUND), [0, 1, 2, 0])
        self.same(places_of(TRIANGLE, [[0, 1]]), [1, 0])
        self.same(places_of(LOOP, [(0, 1)]), [0, 0])
        self.same(places_of(EIGHT, ((0, 0), (1, 1), (2, 0), (5, 0))), [0, 0, 0, 1, 1])
        self.same(places_of(TWO_PARTS, ([2, 0], (0, 1))), [5, 5, 4])

    def test_places_of_all_small_rides(self):
        for web, rides in small_rides():
            for ride in rides:
                begun = [web[1][number][side] for number, side in ride]
                ended = [web[1][number][1 - side] for number, side in ride]
                self.assertEqual(begun[1:], ended[:-1])
                self.assertEqual(places_of(web, ride), begun + ended[-1:])

    def test_about(self):
        self.same(about(TRIANGLE, AROUND), [(2, 1), (1, 1), (0, 1)])
        self.same(about(TRIANGLE, [[1, 1]]), [(1, 0)])
        self.same(about(SIDE_BY_SIDE, ([0, 0], (2, 0), [1, 0])), [(1, 1), (2, 1), (0, 1)])

    def test_about_of_all_small_rides(self):
        for web, rides in small_rides():
            for ride in rides:
                told = about(web, ride)
                self.assertIn(told, rides)
                self.assertEqual([end[0] for end in told], [end[0] for end in reversed(ride)])
                self.assertEqual(places_of(web, told), places_of(web, ride)[::-1])
                self.assertEqual(about(web, told), ride)

    def test_begun_at(self):
        self.same(begun_at(TRIANGLE, AROUND, 0), AROUND)
        self.same(begun_at(TRIANGLE, AROUND, 1), [(1, 0), (2, 0), (0, 0)])
        self.same(begun_at(TRIANGLE, ([0, 0], [1, 0], [2, 0]), 2), [(2, 0), (0, 0), (1, 0)])

    def test_least_round(self):
        for ride in (AROUND, about(TRIANGLE, AROUND), begun_at(TRIANGLE, AROUND, 2), all_tuples(AROUND)):
            self.same(least_round(TRIANGLE, ride), AROUND)
        self.same(least_round(EIGHT, [[1, 1], [0, 1]]), [(0, 0), (1, 0)])
        self.same(least_round(EIGHT, [[5, 1], [4, 0]]), [(4, 0), (5, 1)])
        self.same(least_round(EIGHT, [(7, 0), (6, 0)]), [(6, 0), (7, 0)])

    def test_small_rounds(self):
        for web, rides in small_rides():
            for ride in rides:
                if follows(web, ride[-1], ride[0]):
                    begun = [begun_at(web, ride, number) for number in range(len(ride))]
                    for number, told in enumerate(begun):
                        self.assertIn(told, rides)
                        self.assertTrue(round_is(web, told))
                        self.assertEqual([told[0], told[-1]], [ride[number], ride[number - 1]])
                        self.assertEqual(begun_at(web, told, len(ride) - number - 1), begun[-1])
                    due = min(begun + [about(web, told) for told in begun])
                    for told in begun:
                        self.same(least_round(web, told), due)
                        self.same(least_round(web, about(web, told)), due)

    def test_sixty_lines(self):
        for seed in range(5):
            web = (1, tuple((0, 0, "abc"[(k * 7 + seed) % 3]) for k in range(60)))
            ride = [(k, (k + seed) % 2) for k in reversed(range(60))]
            self.assertTrue(round_is(web, ride))
            least = least_round(web, ride)
            self.assertEqual(least[0], (0, 0))
            for number in range(60):
                self.assertEqual(least_round(web, begun_at(web, ride, number)), least)
                self.assertEqual(least_round(web, begun_at(web, about(web, ride), number)), least)


class MadeOne(unittest.TestCase):
    def check(self, web, one, other):
        told = made_one(web, one, other)
        self.assertIs(type(told), list)
        self.assertTrue(all(type(end) is tuple for end in told))
        self.assertTrue(round_is(web, told), (web, one, other, told))
        lines = [end[0] for end in one] + [end[0] for end in other]
        self.assertEqual(sorted(end[0] for end in told), sorted(lines))

    def test_ordinary(self):
        self.check(EIGHT, [(0, 0), (1, 0)], [(2, 0), (3, 0)])
        self.check(EIGHT, [(2, 0), (3, 0)], [(4, 0), (5, 0)])
        self.check(EIGHT, [(3, 1), (2, 1)], [(4, 1), (5, 0)])
        self.check(EIGHT, [(0, 0), (1, 0), (2, 0), (3, 0)], [(4, 0), (5, 0)])

    def test_lists_and_tuples_mixed(self):
        self.check(all_lists(EIGHT), ([0, 0], (1, 0)), [(2, 0), [3, 0]])

    def test_what_is_told_may_be_handed_in(self):
        whole = made_one(EIGHT, [(0, 0), (1, 0)], [(2, 0), (3, 0)])
        self.check(EIGHT, whole, [(4, 0), (5, 0)])
        self.check(EIGHT, [(4, 0), (5, 0)], about(EIGHT, whole))
        self.assertIsNone(made_one(EIGHT, whole, [(6, 0), (7, 0)]))

    def test_rounds_that_do_not_meet(self):
        for one, other in (([(0, 0), (1, 0)], [(4, 0), (5, 0)]), ([(0, 0), (1, 0)], [(6, 0), (7, 0)])):
            self.assertIsNone(made_one(EIGHT, one, other))
            self.assertIsNone(made_one(EIGHT, other, one))
            self.assertIsNone(made_one(EIGHT, about(EIGHT, one), begun_at(EIGHT, other, 1)))
            self.assertIsNone(made_one(all_lists(EIGHT), all_tuples(one), all_lists(all_tuples(other))))

    def test_only_one_way_about_fits(self):
        # All four lines come to place 0; there c must not meet c, whichever way each round is told.
        web = (3, ((0, 1, "c"), (1, 0, "a"), (0, 2, "c"), (2, 0, "b")))
        one, other = [(0, 0), (1, 0)], [(2, 0), (3, 0)]
        for first in (one, about(web, one), begun_at(web, one, 1)):
            for second in (other, about(web, other), begun_at(web, other, 1)):
                self.check(web, first, second)
                self.check(web, second, first)

    def test_all_small_pairs(self):
        met = 0
        for web in itertools.chain(webs_of(2, 4, "ab"), webs_of(1, 4, "abc"), [EIGHT, TRIANGLE, ONE_COMPANY]):
            rounds = [ride for ride in all_rides(web) if follows(web, ride[-1], ride[0]) and len(ride) < 5]
            for one, other in itertools.product(rounds, repeat=2):
                if {end[0] for end in one} & {end[0] for end in other}:
                    with self.assertRaises(NoRide):
                        made_one(web, one, other)
                elif set(places_of(web, one)) & set(places_of(web, other)):
                    self.check(web, one, other)
                    met += 1
                else:
                    self.assertIsNone(made_one(web, one, other))
        self.assertGreater(met, 1000)

    def test_long_rounds(self):
        for seed in range(40):
            (places, lines), one = round_web(seed, 6, 30, "abc")
            (_, more), other = round_web(seed + 100, 6, 30, "cdb")
            web = (places, lines + more)
            self.check(web, one, [(number + 30, side) for number, side in other])


class WebsTold(unittest.TestCase):
    """What other stages tell is taken here."""

    def test_webs_made_otherwise(self):
        self.assertTrue(round_is(with_line(TRIANGLE, 0, 0, "a"), AROUND))
        self.assertFalse(ride_is(without_line(TRIANGLE, 2), AROUND))
        self.assertTrue(ride_is(without_line(TRIANGLE, 2), AROUND[:2]))
        self.assertFalse(round_is(loosened(TRIANGLE, (0, 0)), AROUND))
        self.assertTrue(ride_is(loosened(TRIANGLE, (0, 0)), AROUND))
        self.assertEqual(places_of(loosened(TRIANGLE, (0, 0)), AROUND), [3, 1, 2, 0])

    def test_a_web_of_full_size(self):
        for number in range(60):
            for side in (0, 1):
                self.assertTrue(ride_is(FULL, [(number, side)]))
                self.assertEqual(places_of(FULL, [(number, side)]), [FULL[1][number][side], FULL[1][number][1 - side]])


if __name__ == "__main__":
    unittest.main()
