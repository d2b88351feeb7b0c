"""Points 20, 21 and 22: turnings, all rounds, rows of turnings, heaps. And point 4, as far as it speaks of them."""

import itertools
import unittest
from unittest import mock

from changeride import turnings as module
from changeride.errors import NoRide, NoTurning, NoWeb, TooMany
from changeride.rides import about, begun_at, least_round, places_of, round_is
from changeride.told import round_of
from changeride.turnings import all_rounds, heaps, row_to, turned, turnings
from tests.samples import (
    ALL_AT_ONE,
    EMPTY,
    FULL,
    LONELY,
    LOOP,
    NO_ENDS,
    NO_NUMBERS,
    NO_WEBS,
    ONE_COMPANY,
    SIDE_BY_SIDE,
    TRIANGLE,
    TWO_PARTS,
    all_lists,
    all_rides,
    all_tuples,
    follows,
    knot,
    round_web,
    rounds_along_all,
    webs_in_order,
    webs_of,
)

AROUND = [(0, 0), (1, 0), (2, 0)]
# Two triangles with a place in common.
BOW = (5, ((0, 1, "a"), (1, 2, "b"), (2, 0, "c"), (0, 3, "b"), (3, 4, "c"), (4, 0, "d")))
BOW_AROUND = [(0, 0), (1, 0), (2, 0), (3, 0), (4, 0), (5, 0)]
# Two places with four lines side by side between them, all of unlike companies.
LADDER = (2, ((0, 1, "a"), (1, 0, "b"), (0, 1, "c"), (1, 0, "d")))
LADDER_AROUND = [(0, 0), (1, 0), (2, 0), (3, 0)]


def web_told(places, text):
    """A web, its lines told by two places and a company each."""
    return places, tuple((int(line[0]), int(line[1]), line[2]) for line in text.split())


# Fifty ways through the first two places and a hundred through the others: five thousand rounds in all.
FIVE_THOUSAND = web_told(4, "01b 10a 01d 10c 01d 12a 22d 23a 32c 23e 32b 20c")
SOME_MORE = web_told(5, "02f 34c 24e 21b 14d 20d 22a 42f 24a 20b 24d 30d")
# Nine lines each.
JUST_BELOW = web_told(2, "01c 00c 10d 10d 01a 00a 00a 01d 10b")
JUST_ABOVE = web_told(3, "10c 11b 11d 12f 11e 01a 21b 12a 12f")
FAR_ABOVE = knot("abcdefg")
NO_TURNINGS = (
    NO_NUMBERS
    + tuple((0, number) for number in NO_NUMBERS)
    + tuple((number, 1) for number in NO_NUMBERS)
    + tuple((0, 1, number, 3) for number in NO_NUMBERS)
    + tuple((0, 1, 1, number) for number in NO_NUMBERS)
    + (1, -1, "01", b"01", "0123", {0: 1, 1: 2}, {0, 1}, range(2), iter([0, 1]), object(), ((0, 1),), [[0, 1]])
)


def turned_by_hand(ring, numbers):
    """The list as point 20 tells it, whatever becomes of it."""
    row = list(ring)
    if len(numbers) == 2:
        i, j = numbers
        row[i:j] = [(number, 1 - side) for number, side in row[i:j]][::-1]
    else:
        i, j, k, m = numbers
        row[i:m] = row[k:m] + row[j:k] + row[i:j]
    return row


def is_turning_by_hand(web, ring, numbers):
    """Whether it is a turning: numbers in the list, in order, at like places, and a round by it."""
    if any(not 0 <= number < len(ring) for number in numbers):
        return False
    stops = [web[1][number][side] for number, side in ring]
    if len(numbers) == 2:
        i, j = numbers
        if not (i < j and stops[i] == stops[j]):
            return False
    else:
        i, j, k, m = numbers
        if not (i < j <= k < m and stops[i] == stops[k] and stops[j] == stops[m]):
            return False
    row = turned_by_hand(ring, numbers)
    return all(follows(web, one, other) for one, other in zip(row, row[1:] + row[:1]))


def turnings_by_hand(web, ring):
    numbers = range(len(ring))
    tried = itertools.chain(itertools.product(numbers, repeat=2), itertools.product(numbers, repeat=4))
    return sorted(turning for turning in tried if is_turning_by_hand(web, ring, turning))


def all_lists_of(ring):
    """All lists that a round is."""
    for way in (ring, [(number, 1 - side) for number, side in reversed(ring)]):
        for at in range(len(ring)):
            yield way[at:] + way[:at]


def least_by_hand(ring):
    return min(all_lists_of(ring))


def rounds_by_hand(web):
    return sorted({tuple(least_by_hand(ring)) for ring in rounds_along_all(web)})


def beside_by_hand(web, ring):
    """The rounds, by their least lists, that one turning leads to, whichever of its lists the round is told by."""
    told = {tuple(ring): None}
    for way in all_lists_of(list(ring)):
        for turning in turnings_by_hand(web, way):
            told[tuple(least_by_hand(turned_by_hand(way, turning)))] = None
    return [other for other in told if other != tuple(ring)]


def steps_by_hand(links, ring):
    """How many turnings lead to each round at the least."""
    steps = {ring: 0}
    waiting = [ring]
    while waiting:
        one = waiting.pop(0)
        for other in links[one]:
            if other not in steps:
                steps[other] = steps[one] + 1
                waiting.append(other)
    return steps


def counted(web):
    """How many rounds along all lines there are."""
    lines = web[1]

    def go(place, company, gone):
        if len(gone) == len(lines):
            return 1 if place == lines[0][0] and company != lines[0][2] else 0
        many = 0
        for number, (one, other, next_company) in enumerate(lines):
            if number not in gone and next_company != company:
                many += go(other, next_company, gone | {number}) if one == place else 0
                many += go(one, next_company, gone | {number}) if other == place else 0
        return many

    return go(lines[0][1], lines[0][2], frozenset([0])) if lines else 0


def small_webs():
    for places, many, companies in ((1, 3, "abc"), (2, 3, "abc"), (1, 4, "ab"), (2, 4, "ab"), (3, 3, "abc")):
        yield from webs_of(places, many, companies)
    yield from webs_in_order(2, 3, "ab")
    for seed in range(12):
        yield round_web(seed, 1 + seed % 4, 4 + seed % 2, "abc")[0]
    yield from (EMPTY, LONELY, LOOP, SIDE_BY_SIDE, TRIANGLE, ONE_COMPANY, TWO_PARTS, BOW, LADDER)


def webs_with_many_ways():
    """Small webs with rounds from which turnings of each kind lead on."""
    yield from (LADDER, BOW, knot("abc"), knot("aabb"), knot("abab"), knot("aabc"), knot("abcd"))
    for seed in range(14):
        yield round_web(seed, 1 + seed % 3, 5 + seed % 3, ("abc", "abcd")[seed % 2])[0]


def wanted_rounds(web, most):
    """Some rounds of the web, from the least to the greatest, and some of the lists that each is."""
    rounds = rounds_by_hand(web)
    for ring in rounds[:: 1 + len(rounds) // most]:
        yield from list(all_lists_of(list(ring)))[:: 3]


class Turnings(unittest.TestCase):
    def check(self, web, ring):
        """Tries each pair and each four of numbers, from below 0 to beyond the list."""
        told = turnings(web, ring)
        self.assertEqual(repr(told), repr(turnings_by_hand(web, ring)), (web, ring))
        numbers = range(-1, len(ring) + 2)
        for tried in itertools.chain(itertools.product(numbers, repeat=2), itertools.product(numbers, repeat=4)):
            if tried in told:
                made = turned(web, ring, tried)
                self.assertEqual(repr(made), repr(turned_by_hand(ring, tried)))
                self.assertTrue(round_is(web, made), (web, ring, tried))
            else:
                with self.assertRaises(NoTurning, msg=repr((web, ring, tried))):
                    turned(web, ring, tried)

    def test_ordinary(self):
        self.assertEqual(turnings(TRIANGLE, AROUND), [])
        self.assertEqual(turnings(BOW, BOW_AROUND), [(0, 3)])
        self.assertEqual(turned(BOW, BOW_AROUND, (0, 3)), [(2, 1), (1, 1), (0, 1), (3, 0), (4, 0), (5, 0)])
        self.assertEqual(turnings(knot("ab"), [(0, 0), (1, 0)]), [(0, 1)])
        self.assertEqual(turned(knot("ab"), [(0, 0), (1, 0)], (0, 1)), [(0, 1), (1, 0)])
        self.assertEqual(turnings(LADDER, LADDER_AROUND), [(0, 1, 2, 3), (0, 2), (1, 3)])
        self.assertEqual(turned(LADDER, LADDER_AROUND, (0, 2)), [(1, 1), (0, 1), (2, 0), (3, 0)])
        self.assertEqual(turned(LADDER, LADDER_AROUND, (1, 3)), [(0, 0), (2, 1), (1, 1), (3, 0)])
        self.assertEqual(turned(LADDER, LADDER_AROUND, (0, 1, 2, 3)), [(2, 0), (1, 0), (0, 0), (3, 0)])

    def test_what_lies_between_may_be_nothing(self):
        ring = [(0, 0), (1, 0), (2, 0)]
        self.assertIn((0, 1, 1, 2), turnings(knot("abc"), ring))
        self.assertEqual(turned(knot("abc"), ring, (0, 1, 1, 2)), [(1, 0), (0, 0), (2, 0)])

    def test_sorted_with_pairs_among_fours(self):
        told = turnings(knot("abcd"), LADDER_AROUND)
        self.assertEqual(told, sorted(told))
        self.assertEqual(told[:3], [(0, 1), (0, 1, 1, 2), (0, 1, 1, 3)])

    def test_each_pair_and_each_four(self):
        tried = 0
        for web in webs_with_many_ways():
            for ring in wanted_rounds(web, 2):
                if len(ring) < 6:
                    self.check(web, ring)
                    tried += 1
        self.assertGreater(tried, 40)

    def test_a_round_along_some_lines(self):
        web = (3, LADDER[1] + ((0, 0, "e"), (1, 1, "e"), (2, 2, "a")))
        for ring in (LADDER_AROUND, [(0, 0), (1, 0)], [(0, 0), (5, 0), (1, 0), (4, 1)]):
            self.assertTrue(round_is(web, ring))
            self.check(web, ring)

    def test_longer_rounds(self):
        for web in webs_with_many_ways():
            for ring in wanted_rounds(web, 3):
                self.assertEqual(turnings(web, ring), turnings_by_hand(web, ring))

    def test_twenty_lines(self):
        for seed in range(6):
            web, ring = round_web(seed, 1 + seed, 20, "abc")
            told = turnings(web, ring)
            self.assertEqual(told, sorted(told))
            self.assertEqual(len(told), len(set(told)))
            due = [pair for pair in itertools.combinations(range(20), 2) if is_turning_by_hand(web, ring, pair)]
            for one, between, last in itertools.combinations(range(20), 3):
                due += [(one, between, between, last)] if is_turning_by_hand(web, ring, (one, between, between, last)) else []
            for four in itertools.combinations(range(20), 4):
                due += [four] if is_turning_by_hand(web, ring, four) else []
            self.assertEqual(told, sorted(due))

    def test_each_can_be_turned_back(self):
        for web in webs_with_many_ways():
            for ring in wanted_rounds(web, 2):
                for turning in turnings(web, ring):
                    made = turned(web, ring, turning)
                    self.assertEqual(sorted(end[0] for end in made), sorted(end[0] for end in ring))
                    self.assertNotEqual(made, ring)
                    self.assertIn(ring, [turned(web, made, back) for back in turnings(web, made)])

    def test_lists_and_tuples_are_taken(self):
        due = [(2, 0), (1, 0), (0, 0), (3, 0)]
        for turning in ((0, 1, 2, 3), [0, 1, 2, 3]):
            for ring in (LADDER_AROUND, tuple(LADDER_AROUND), all_lists(tuple(LADDER_AROUND)), all_tuples(LADDER_AROUND)):
                self.assertEqual(repr(turned(all_lists(LADDER), ring, turning)), repr(due))
                self.assertEqual(repr(turnings(all_lists(LADDER), ring)), repr(turnings(LADDER, LADDER_AROUND)))
        self.assertEqual(turned(LADDER, LADDER_AROUND, [0, 2]), turned(LADDER, LADDER_AROUND, (0, 2)))


class NoTurnings(unittest.TestCase):
    def none(self, web, ring, thing):
        with self.assertRaises(NoTurning, msg=repr((web, ring, thing))):
            turned(web, ring, thing)

    def test_anything(self):
        endless = []
        endless.append(endless)
        for web, ring in ((TRIANGLE, AROUND), (LADDER, LADDER_AROUND), (knot("abcd"), LADDER_AROUND)):
            for thing in NO_TURNINGS + (endless, [endless, endless], (endless,) * 4):
                self.none(web, ring, thing)

    def test_truths(self):
        web = knot("abcd")
        self.assertIn((0, 1), turnings(web, LADDER_AROUND))
        self.assertIn((0, 1, 1, 2), turnings(web, LADDER_AROUND))
        for thing in ((False, 1), (0, True), (False, True), (False, 2), (True, 2)):
            self.none(web, LADDER_AROUND, thing)
        for at in range(4):
            for four in ([0, 1, 1, 2], [0, 1, 2, 3]):
                if four[at] < 2:
                    four[at] = bool(four[at])
                    self.none(web, LADDER_AROUND, four)

    def test_numbers_beyond_and_below(self):
        web = knot("abcd")
        for number in (4, 5, 10 ** 29):
            self.none(web, LADDER_AROUND, (0, number))
            self.none(web, LADDER_AROUND, (number, number + 1))
            self.none(web, LADDER_AROUND, (0, 1, 2, number))
            self.none(web, LADDER_AROUND, (0, 1, number, number + 1))
        for number in (-1, -2, -4, -(10 ** 29)):
            self.none(web, LADDER_AROUND, (number, 0))
            self.none(web, LADDER_AROUND, (number, 3))
            self.none(web, LADDER_AROUND, (0, number))
            self.none(web, LADDER_AROUND, (number, 1, 2, 3))
            self.none(web, LADDER_AROUND, (0, number, 2, 3))
            self.none(web, LADDER_AROUND, (0, 1, 2, number))

    def test_falling_and_alike(self):
        web = knot("abcd")
        for thing in ((1, 0), (3, 1), (0, 0), (2, 2), (1, 0, 2, 3), (0, 2, 1, 3), (0, 1, 3, 2), (3, 2, 1, 0)):
            self.none(web, LADDER_AROUND, thing)
        for thing in ((0, 0, 1, 2), (0, 1, 2, 2), (0, 0, 0, 0), (1, 1, 2, 3), (0, 3, 3, 3), (2, 3, 0, 1)):
            self.none(web, LADDER_AROUND, thing)

    def test_too_few_and_too_many(self):
        web = knot("abcdef")
        ring = [(number, 0) for number in range(6)]
        for thing in ((), (0,), (0, 1, 2), (0, 1, 1), (0, 1, 1, 2, 3), (0, 1, 2, 3, 4), (0, 1, 2, 3, 4, 5)):
            self.none(web, ring, thing)
            self.none(web, ring, list(thing))
        self.none(web, ring, list(range(300)))

    def test_unlike_places(self):
        for thing in ((0, 1), (0, 3), (1, 2), (2, 3), (0, 1, 1, 2), (0, 1, 1, 3), (0, 2, 2, 3)):
            self.none(LADDER, LADDER_AROUND, thing)
        for thing in itertools.combinations(range(3), 2):
            self.none(TRIANGLE, AROUND, thing)

    def test_like_places_without_a_change(self):
        # At place 0 the round goes from a to b and from a to b: the other way about they would meet their likes.
        web = (3, ((0, 1, "b"), (1, 0, "a"), (0, 2, "b"), (2, 0, "a")))
        self.assertEqual(places_of(web, LADDER_AROUND), [0, 1, 0, 2, 0])
        self.none(web, LADDER_AROUND, (0, 2))
        self.assertEqual(turnings(web, LADDER_AROUND), [])


class Refused(unittest.TestCase):
    NO_ROUNDS = (
        NO_NUMBERS
        + tuple([end] for end in NO_ENDS)
        + tuple([(0, 0), end, (2, 0)] for end in NO_ENDS)
        + (AROUND[:2], [(0, 0), (2, 0)], AROUND + AROUND, [(0, 0), (0, 1)], "round", 1, object(), {0: (0, 0)})
    )

    def refused(self, refusal, function, *arguments):
        with self.assertRaises(refusal, msg=repr((function.__name__, arguments))):
            function(*arguments)

    def test_no_ride(self):
        for ring in self.NO_ROUNDS:
            self.refused(NoRide, turnings, TRIANGLE, ring)
            self.refused(NoRide, turned, TRIANGLE, ring, (0, 1))
            self.refused(NoRide, row_to, TRIANGLE, ring, AROUND)
            self.refused(NoRide, row_to, TRIANGLE, AROUND, ring)
            self.refused(NoRide, row_to, TRIANGLE, ring, ring)

    def test_no_ride_goes_ahead_of_no_turning(self):
        for ring in self.NO_ROUNDS:
            for thing in NO_TURNINGS + ((0, 1), (1, 0), (0, 1, 1, 2)):
                self.refused(NoRide, turned, TRIANGLE, ring, thing)

    def test_a_ride_that_is_no_round(self):
        web = (3, ((0, 1, "a"), (1, 2, "b"), (2, 0, "a")))
        self.refused(NoRide, turnings, web, AROUND)
        self.refused(NoRide, turned, web, AROUND, (0, 1))
        self.refused(NoRide, row_to, web, AROUND, AROUND)

    def test_rows_are_asked_of_rounds_along_all_lines(self):
        web = knot("abcd")
        for short in ([(0, 0), (1, 0)], [(0, 0), (1, 0), (2, 0)]):
            self.assertTrue(round_is(web, short))
            self.refused(NoRide, row_to, web, short, LADDER_AROUND)
            self.refused(NoRide, row_to, web, LADDER_AROUND, short)
            self.refused(NoRide, row_to, web, short, short)

    def test_webs_without_lines_have_no_rounds(self):
        for web in (EMPTY, LONELY, LOOP):
            for ring in ([], [(0, 0)]):
                self.refused(NoRide, turnings, web, ring)
                self.refused(NoRide, turned, web, ring, (0, 1))
                self.refused(NoRide, row_to, web, ring, ring)

    def test_no_ride_goes_ahead_of_too_many(self):
        ring = [(number, 0) for number in range(7)]
        for other in self.NO_ROUNDS + (ring[:-1], ring[:2]):
            self.refused(NoRide, row_to, FAR_ABOVE, other, ring)
            self.refused(NoRide, row_to, FAR_ABOVE, ring, other)
            self.refused(NoRide, row_to, FAR_ABOVE, other, other)

    def test_too_many(self):
        for web in (FAR_ABOVE, JUST_ABOVE, SOME_MORE, knot("abcdefgh"), ALL_AT_ONE, knot("ab" * 30)):
            ring = round_of(web)
            self.refused(TooMany, all_rounds, web)
            self.refused(TooMany, heaps, web)
            self.refused(TooMany, row_to, web, ring, about(web, ring))
            self.refused(TooMany, row_to, web, ring, ring)

    def test_what_is_no_web_goes_first(self):
        for web in NO_WEBS:
            for function in (all_rounds, heaps):
                self.refused(NoWeb, function, web)
            for ring in (AROUND, None):
                self.refused(NoWeb, turnings, web, ring)
                self.refused(NoWeb, turned, web, ring, None)
                self.refused(NoWeb, row_to, web, ring, ring)


class AllRounds(unittest.TestCase):
    def test_ordinary(self):
        self.assertEqual(repr(all_rounds(TRIANGLE)), repr([AROUND]))
        self.assertEqual(all_rounds(knot("ab")), [[(0, 0), (1, 0)], [(0, 0), (1, 1)]])
        self.assertEqual(len(all_rounds(knot("abcdef"))), 3840)
        self.assertEqual(all_rounds(BOW), rounds_told(BOW))

    def test_none(self):
        for web in (EMPTY, LONELY, LOOP, SIDE_BY_SIDE, ONE_COMPANY, TWO_PARTS, FULL, knot("a"), knot("aab")):
            self.assertEqual(repr(all_rounds(web)), "[]")
            self.assertEqual(heaps(web), 0)

    def test_small_webs(self):
        some = 0
        for web in small_webs():
            told = all_rounds(web)
            self.assertEqual(repr(told), repr(rounds_told(web)), web)
            self.assertEqual(told[0] if told else None, round_of(web))
            some += len(told)
        self.assertGreater(some, 500)

    def test_up_to_nine_lines(self):
        for seed in range(40):
            web, ring = round_web(seed, 2 + seed % 4, 6 + seed % 4, ("abc", "abcde")[seed % 2])
            many = counted(web)
            if many > 5000:
                with self.assertRaises(TooMany):
                    all_rounds(web)
            else:
                self.all_of_them(web, many)
                self.assertIn(least_round(web, ring), all_rounds(web))

    def test_just_up_to_five_thousand(self):
        for web, many in ((FIVE_THOUSAND, 5000), (JUST_BELOW, 4992)):
            self.assertEqual(counted(web), many)
            self.all_of_them(web, many)

    def test_more_than_five_thousand(self):
        for web, many in ((SOME_MORE, 5004), (JUST_ABOVE, 5056), (FAR_ABOVE, 46080)):
            self.assertEqual(counted(web), many)
            with self.assertRaises(TooMany):
                all_rounds(web)

    def all_of_them(self, web, many):
        told = all_rounds(web)
        self.assertEqual(len(told), many)
        self.assertEqual(told, sorted(told))
        self.assertEqual(len({tuple(ring) for ring in told}), many)
        for ring in told:
            self.assertEqual(len(ring), len(web[1]))
            self.assertTrue(round_is(web, ring))
        for ring in told[:: 1 + many // 50]:
            self.assertEqual(repr(least_by_hand(ring)), repr(ring))

    def test_long_rounds(self):
        ring = [(number, 0) for number in range(24)]
        web = (24, tuple((k, (k + 1) % 24, "ab"[k % 2]) for k in range(24)))
        self.assertEqual(all_rounds(web), [ring])
        self.assertEqual(heaps(web), 1)
        self.assertEqual(row_to(web, ring, about(web, ring)), [])

    def test_lists_are_taken(self):
        for web in (TRIANGLE, LADDER, LONELY, knot("aabb")):
            self.assertEqual(all_rounds(all_lists(web)), all_rounds(web))
            self.assertEqual(heaps(all_lists(web)), heaps(web))


def rounds_told(web):
    return [list(ring) for ring in rounds_by_hand(web)]


class Rows(unittest.TestCase):
    def follow(self, web, one, other, row):
        """Goes along the row, and is at the other round at its end."""
        self.assertIs(type(row), list)
        ring = one
        for turning in row:
            self.assertIs(type(turning), tuple)
            self.assertIn(turning, turnings(web, ring))
            ring = turned(web, ring, turning)
        self.assertEqual(least_by_hand(ring), least_by_hand(other))

    def test_ordinary(self):
        self.assertEqual(row_to(LADDER, LADDER_AROUND, [(1, 1), (0, 1), (2, 0), (3, 0)]), [(0, 2)])
        self.assertEqual(row_to(knot("ab"), [(0, 0), (1, 0)], [(0, 0), (1, 1)]), [(0, 1)])
        self.assertEqual(row_to(knot("ab"), [(0, 1), (1, 0)], [(1, 1), (0, 0)]), [])

    def test_to_the_same_round(self):
        for web in webs_with_many_ways():
            for ring in wanted_rounds(web, 1):
                self.assertEqual(row_to(web, ring, ring), [])
                self.assertEqual(row_to(web, ring, about(web, ring)), [])
                self.assertEqual(row_to(web, begun_at(web, ring, len(ring) - 1), ring), [])

    def test_a_shortest_row_between_all(self):
        """Held against all rounds and all turnings of all their lists."""
        lengths = set()
        for web in small_webs():
            rounds = rounds_by_hand(web)
            links = {ring: beside_by_hand(web, ring) for ring in rounds} if len(rounds) < 60 else {}
            for ring in list(links)[::7]:
                steps = steps_by_hand(links, ring)
                for number, (other, due) in enumerate(sorted(steps.items())):
                    one = list(all_lists_of(list(ring)))[number % (2 * len(ring))]
                    row = row_to(web, one, list(all_lists_of(list(other)))[(number * 3) % (2 * len(ring))])
                    self.assertEqual(len(row), due, (web, one, other))
                    self.follow(web, one, list(other), row)
                    lengths.add(due)
        self.assertGreaterEqual(max(lengths), 3)

    def test_heaps(self):
        """Held against all rounds and all turnings of all their lists."""
        for web in itertools.chain(small_webs(), [knot("aabbc"), knot("abcd")]):
            rounds = rounds_by_hand(web) if len(web[1]) < 6 else []
            if len(web[1]) == 0 or rounds:
                links = {ring: beside_by_hand(web, ring) for ring in rounds}
                heaped = {tuple(sorted(steps_by_hand(links, ring))) for ring in rounds[::11]}
                self.assertEqual(heaps(web), len(heaped), web)

    def test_never_more_than_one_heap_of_two_companies(self):
        some = 0
        for places, many in ((1, 2), (2, 4), (3, 4), (1, 4), (2, 6), (4, 4)):
            for web in webs_of(places, many, "ab"):
                told = heaps(web)
                self.assertEqual(told, 0 if round_of(web) is None else 1, web)
                some += told
        for seed in range(20):
            web, _ = round_web(seed, 2 + seed % 4, 8, "abc")
            web = (web[0], tuple((one, other, "ab"[company == "c"]) for one, other, company in web[1]))
            self.assertLessEqual(heaps(web), 1)
            some += heaps(web)
        self.assertGreater(some, 200)

    def test_webs_of_nine_lines(self):
        for seed in range(12):
            web, ring = round_web(seed, 3 + seed % 3, 9, "abc")
            if counted(web) < 600:
                rounds = all_rounds(web)
                for other in rounds[:: 1 + len(rounds) // 4]:
                    row = row_to(web, ring, other)
                    self.follow(web, ring, other, row)
                    back = row_to(web, other, ring)
                    self.follow(web, other, ring, back)
                    self.assertEqual(len(back), len(row))

    def test_five_thousand_rounds(self):
        for web in (FIVE_THOUSAND, JUST_BELOW):
            rounds = all_rounds(web)
            row = row_to(web, rounds[0], rounds[-1])
            self.follow(web, rounds[0], rounds[-1], row)
            self.assertEqual(heaps(web), 1)

    def test_where_no_row_leads_there(self):
        # No web is known here whose rounds fall in more than one heap, so some turnings are kept from them.
        web = knot("abc")
        rounds = all_rounds(web)
        self.assertEqual(len(rounds), 8)
        with mock.patch.object(module, "turnings_of", lambda lines, ring: []):
            self.assertEqual(heaps(web), 8)
            self.assertIsNone(row_to(web, rounds[0], rounds[1]))
            self.assertEqual(row_to(web, rounds[0], rounds[0]), [])
        whole = module.turnings_of
        with mock.patch.object(module, "turnings_of", lambda lines, ring: [t for t in whole(lines, ring) if len(t) > 2]):
            self.assertEqual(heaps(web), 4)
            self.assertIsNone(row_to(web, [(0, 0), (1, 0), (2, 0)], [(0, 0), (1, 0), (2, 1)]))
            self.assertEqual(row_to(web, [(0, 0), (1, 0), (2, 0)], [(0, 0), (2, 0), (1, 0)]), [(0, 1, 1, 2)])

    def test_lists_and_tuples_are_taken(self):
        other = [(2, 0), (1, 0), (0, 0), (3, 0)]
        due = row_to(LADDER, LADDER_AROUND, other)
        self.assertEqual(due, [(0, 1, 2, 3)])
        for one in (tuple(LADDER_AROUND), all_lists(tuple(LADDER_AROUND))):
            self.assertEqual(repr(row_to(all_lists(LADDER), one, all_lists(tuple(other)))), repr(due))
            self.assertEqual(repr(row_to(LADDER, one, tuple(other))), repr(due))


if __name__ == "__main__":
    unittest.main()
