"""Points 13, 14 and 15: ridings, the fewest of them, and papers. And point 4, as far as it speaks of them."""

import itertools
import unittest

from changeride.errors import NoWeb
from changeride.rides import about, begun_at, made_one, round_is
from changeride.riding import fewest, paper_of, riding, riding_is, shown_by
from changeride.wants import wants
from changeride.webs import ends_at, loosened, parts_of, with_line
from tests.samples import (
    ALL_AT_ONE,
    EMPTY,
    FULL,
    LONELY,
    LOOP,
    NO_COMPANIES,
    NO_ENDS,
    NO_NUMBERS,
    NO_WEBS,
    ONE_COMPANY,
    SIDE_BY_SIDE,
    TRIANGLE,
    TWO_PARTS,
    WEBS,
    all_lists,
    all_rides,
    all_tuples,
    follows,
    knot,
    mixed_web,
    round_web,
    star,
    webs_in_order,
    webs_of,
)

AROUND = ("round", [(0, 0), (1, 0), (2, 0)])
# Parts whose first lines come in turn, one of them with wants, one without, one of a single loop, and a lone place.
THREE_PARTS = (
    7,
    ((5, 5, "z"), (0, 1, "a"), (2, 3, "b"), (1, 0, "b"), (3, 2, "b"), (3, 4, "a"), (0, 0, "c"), (0, 0, "d")),
)
SEEDS = 60


def small_webs():
    sizes = ((1, 4, "abc"), (2, 3, "abc"), (2, 4, "ab"), (3, 3, "abc"), (1, 5, "ab"), (2, 5, "ab"))
    for places, many, companies in sizes:
        yield from webs_of(places, many, companies)
    yield from webs_in_order(2, 2, "ab")
    yield from (EMPTY, LONELY, LOOP, SIDE_BY_SIDE, TRIANGLE, ONE_COMPANY, TWO_PARTS)


def great_webs():
    """Webs up to twenty-four places and sixty lines."""
    yield from (FULL, ALL_AT_ONE, THREE_PARTS, knot("a" * 60), knot("a" * 31 + "b" * 29), star("ab" * 12))
    for seed in range(SEEDS):
        yield mixed_web(seed, 1 + seed % 24, 60, ("ab", "abc", "abcdefgh")[seed % 3])
        yield mixed_web(seed + 1000, 24, 5 + seed % 20, "abc")
        yield round_web(seed, 1 + seed % 24, 30 + seed % 31, "abcde")[0]


def fewest_by_hand(web):
    """The fewest rides by which each line is gone along once: by the lines that a ride may go along together."""
    many = len(web[1])
    together = {sum(2 ** number for number, _ in ride) for ride in all_rides(web)}
    least = [0]
    for lines in range(1, 2 ** many):
        least.append(1 + min(least[lines - taken] for taken in together if taken & lines == taken))
    return least[-1]


class RidingIs(unittest.TestCase):
    def riding_is(self, web, thing, due):
        self.assertIs(riding_is(web, thing), due, (web, thing))

    def test_ordinary(self):
        self.riding_is(TRIANGLE, [AROUND], True)
        self.riding_is(TRIANGLE, [("ride", [(0, 0), (1, 0)]), ("ride", [(2, 1)])], True)
        self.riding_is(TRIANGLE, [("ride", [(number, 0)]) for number in (2, 0, 1)], True)
        self.riding_is(SIDE_BY_SIDE, [("round", [(0, 0), (2, 0)]), ("ride", [(1, 0)])], True)
        self.riding_is(SIDE_BY_SIDE, [("ride", [(1, 1)]), ("round", [(2, 0), (0, 0)])], True)

    def test_a_round_is_a_ride_but_a_ride_is_not_always_a_round(self):
        self.riding_is(TRIANGLE, [("ride", AROUND[1])], True)
        self.riding_is(TRIANGLE, [("round", [(0, 0), (1, 0)]), ("ride", [(2, 0)])], False)
        self.riding_is(LOOP, [("ride", [(0, 0)])], True)
        self.riding_is(LOOP, [("round", [(0, 0)])], False)

    def test_no_lines(self):
        for web in (EMPTY, LONELY):
            self.riding_is(web, [], True)
            self.riding_is(web, (), True)
            self.riding_is(web, [("ride", [])], False)
            self.riding_is(web, [("ride", [(0, 0)])], False)

    def test_each_line_just_once(self):
        self.riding_is(TRIANGLE, [], False)
        self.riding_is(TRIANGLE, [("ride", [(0, 0), (1, 0)])], False)
        self.riding_is(TRIANGLE, [AROUND, ("ride", [(0, 0)])], False)
        self.riding_is(TRIANGLE, [AROUND, AROUND], False)
        self.riding_is(TRIANGLE, [("ride", [(0, 0), (1, 0)]), ("ride", [(1, 0), (2, 0)])], False)
        self.riding_is(TRIANGLE, [("ride", [(0, 0), (1, 0)]), ("ride", [(0, 1)])], False)

    def test_each_ride_is_one(self):
        self.riding_is(SIDE_BY_SIDE, [("ride", [(0, 0), (1, 1)]), ("ride", [(2, 0)])], False)
        self.riding_is(SIDE_BY_SIDE, [("ride", [(0, 0), (1, 0), (2, 0)])], False)
        self.riding_is(SIDE_BY_SIDE, [("ride", [(0, 0), (2, 0), (1, 0)])], True)
        self.riding_is(SIDE_BY_SIDE, [("ride", [(0, 0), (2, 0), (1, 0)]), ("ride", [])], False)

    def test_lists_and_tuples_mixed(self):
        told = [("round", [(0, 0), (2, 0)]), ("ride", [(1, 0)])]
        mixed = ([["round", ([0, 0], (2, 0))], ("ride", ([1, 0],))], (("round", [[0, 0], (2, 0)]), ["ride", [(1, 0)]]))
        for thing in (all_tuples(told), all_lists(all_tuples(told))) + mixed:
            self.riding_is(SIDE_BY_SIDE, thing, True)
            self.riding_is(all_lists(SIDE_BY_SIDE), thing, True)

    def test_anything(self):
        endless = []
        endless.append(endless)
        things = [thing for thing in NO_NUMBERS if thing not in ([], ())]
        things += [1, -1, "rides", "rounds", object(), endless, [endless], {0: AROUND}, [[AROUND]]]
        for thing in things + ["ride", "round", AROUND, list(AROUND), AROUND[1]]:
            for web in (EMPTY, LONELY, LOOP, TRIANGLE):
                self.riding_is(web, thing, False)
        for thing in things + [[], ()]:
            for web in (EMPTY, LOOP, TRIANGLE):
                self.riding_is(web, [thing], False)
            self.riding_is(TRIANGLE, [AROUND, thing], False)
            self.riding_is(TRIANGLE, [("ride", thing)], False)
            self.riding_is(TRIANGLE, [("round", thing)], False)
            self.riding_is(TRIANGLE, [AROUND, ("ride", thing)], False)
            self.riding_is(TRIANGLE, [(thing, AROUND[1])], False)

    def test_wrong_words(self):
        for word in ("Ride", "rides", "", " round", "round ", "odd", b"round", ["round"], ("round",), True, None, 0):
            self.riding_is(TRIANGLE, [(word, AROUND[1])], False)
        self.riding_is(TRIANGLE, [("round", AROUND[1], "round")], False)
        self.riding_is(TRIANGLE, [("round",)], False)
        self.riding_is(TRIANGLE, [(AROUND[1], "round")], False)
        self.riding_is(TRIANGLE, [{"round": AROUND[1]}], False)

    def test_wrong_ends(self):
        for end in NO_ENDS + ((3, 0),):
            self.riding_is(TRIANGLE, [("ride", [(0, 0), (1, 0)]), ("ride", [end])], False)
            self.riding_is(TRIANGLE, [("round", [(0, 0), (1, 0), end])], False)
        self.riding_is(TRIANGLE, [("round", [(False, 0), (1, 0), (2, 0)])], False)
        self.riding_is(TRIANGLE, [("round", [(0, 0), (1, False), (2, 0)])], False)
        self.riding_is(TRIANGLE, [("round", [(0, 0), (True, 0), (2, 0)])], False)

    def test_every_row_of_rides_of_small_webs(self):
        for web in (SIDE_BY_SIDE, TRIANGLE, LOOP, knot("aab"), knot("abc"), star("abb")):
            ways = [("ride", ride) for ride in all_rides(web)]
            ways += [("round", ride) for _, ride in ways if follows(web, ride[-1], ride[0])]
            for row in itertools.chain([()], itertools.product(ways, repeat=1), itertools.product(ways, repeat=2)):
                lines = sorted(number for _, ride in row for number, _ in ride)
                self.riding_is(web, list(row), lines == list(range(len(web[1]))))

    def test_what_is_no_web(self):
        for web in NO_WEBS:
            for thing in ([], None, [AROUND]):
                with self.assertRaises(NoWeb):
                    riding_is(web, thing)


class Fewest(unittest.TestCase):
    def test_ordinary(self):
        for web, due in (
            (TRIANGLE, 1),
            (SIDE_BY_SIDE, 1),
            (TWO_PARTS, 2),
            (LOOP, 1),
            (ONE_COMPANY, 4),
            (THREE_PARTS, 4),
            (ALL_AT_ONE, 1),
            (knot("a" * 60), 60),
            (knot("a" * 31 + "b" * 29), 2),
            (star("abcd"), 2),
            (star("aaab"), 3),
        ):
            self.assertEqual(fewest(web), due, web)
            self.assertIs(type(fewest(web)), int)

    def test_no_lines_need_no_ride(self):
        self.assertEqual(fewest(EMPTY), 0)
        self.assertEqual(fewest(LONELY), 0)

    def test_the_formula(self):
        for web in itertools.chain(small_webs(), great_webs()):
            want = wants(web)
            due = 0
            for part in parts_of(web):
                places = {place for number in part for place in web[1][number][:2]}
                due += sum(want[place] for place in places) // 2 or 1
            self.assertEqual(fewest(web), due)

    def test_no_way_to_ride_has_fewer(self):
        for web in small_webs():
            self.assertEqual(fewest(web), fewest_by_hand(web), web)

    def test_what_is_no_web(self):
        for web in NO_WEBS:
            for function in (fewest, riding, paper_of):
                with self.assertRaises(NoWeb):
                    function(web)


class Riding(unittest.TestCase):
    def check(self, web):
        told = riding(web)
        self.assertTrue(riding_is(web, told), (web, told))
        self.assertEqual(len(told), fewest(web), (web, told))
        self.assertIs(type(told), list)
        for entry in told:
            self.assertIs(type(entry), tuple)
            self.assertIs(type(entry[1]), list)
            self.assertTrue(all(type(end) is tuple for end in entry[1]))
        self.check_parts(web, told)
        self.assertEqual(repr(riding(all_lists(web))), repr(told))

    def check_parts(self, web, told):
        """For each part in order its rides, or one round where it wants nothing."""
        parts = parts_of(web)
        part_of = {number: at for at, part in enumerate(parts) for number in part}
        order = [part_of[ride[0][0]] for _, ride in told]
        self.assertEqual(order, sorted(order))
        for at, part in enumerate(parts):
            words = [word for word, ride in told if part_of[ride[0][0]] == at]
            want = sum(wants(web)[place] for place in {place for number in part for place in web[1][number][:2]})
            self.assertEqual(words, ["ride"] * (want // 2) or ["round"])

    def test_ordinary(self):
        for web in WEBS + (THREE_PARTS,):
            self.check(web)
        self.assertEqual([word for word, _ in riding(THREE_PARTS)], ["ride", "round", "ride", "ride"])

    def test_no_lines(self):
        self.assertEqual(riding(EMPTY), [])
        self.assertEqual(riding(LONELY), [])

    def test_small_webs(self):
        for web in small_webs():
            self.check(web)

    def test_great_webs(self):
        for web in great_webs():
            self.check(web)

    def test_one_round_where_no_place_wants_anything(self):
        for seed in range(SEEDS):
            web, _ = round_web(seed, 1 + seed % 8, 4 + seed % 57, "abcd")
            if len(parts_of(web)) == 1:
                told = riding(web)
                self.assertEqual([word for word, _ in told], ["round"])
                self.assertTrue(round_is(web, told[0][1]))

    def test_what_is_told_may_be_handed_in(self):
        (_, ring), = riding(ALL_AT_ONE)
        self.assertTrue(riding_is(ALL_AT_ONE, [("round", about(ALL_AT_ONE, begun_at(ALL_AT_ONE, ring, 30)))]))
        web = (3, ((0, 1, "a"), (1, 0, "b"), (2, 2, "c"), (2, 2, "d")))
        (_, one), (_, other) = riding(web)
        self.assertIsNone(made_one(web, one, other))
        self.assertEqual(fewest(loosened(ALL_AT_ONE, (0, 0))), 1)
        self.check(loosened(ALL_AT_ONE, (0, 0)))
        self.check(with_line(ALL_AT_ONE, 0, 0, "z"))


class ShownBy(unittest.TestCase):
    def shown(self, web, paper, due):
        told = shown_by(web, paper)
        self.assertEqual(repr(told), repr(due), (web, paper))

    def test_ordinary(self):
        self.shown(SIDE_BY_SIDE, [(0, "odd")], 1)
        self.shown(SIDE_BY_SIDE, [(0, "a"), (1, "odd")], 1)
        self.shown(ONE_COMPANY, [(0, "a")], 3)
        self.shown(ONE_COMPANY, [(0, "a"), (1, "a"), (2, "odd"), (3, "odd")], 4)
        self.shown(ONE_COMPANY, [(0, "odd"), (1, "a"), (2, "odd"), (3, "odd")], 2)
        self.shown(THREE_PARTS, [], 3)
        self.shown(THREE_PARTS, [(2, "b"), (4, "odd"), (3, "odd")], 4)
        self.shown(THREE_PARTS, [(5, "z")], 3)

    def test_nothing_shown_is_a_ride_for_each_part(self):
        for web in WEBS:
            self.shown(web, [], len(parts_of(web)))
            self.shown(web, (), len(parts_of(web)))

    def test_rounded_up_by_parts(self):
        web = (8, ((0, 1, "a"), (0, 2, "b"), (0, 3, "c"), (4, 5, "a"), (4, 6, "b"), (4, 7, "c")))
        self.shown(web, [(0, "odd"), (4, "odd")], 2)
        self.shown(web, [(0, "odd"), (1, "odd"), (2, "odd")], 3)
        self.shown(web, [(0, "odd"), (1, "odd"), (2, "odd"), (4, "odd")], 3)
        self.shown(web, [(0, "odd"), (1, "odd"), (2, "odd"), (4, "odd"), (5, "a"), (6, "b")], 4)

    def test_reasons_that_show_nothing(self):
        self.shown(TRIANGLE, [(0, "odd")], None)
        self.shown(TRIANGLE, [(0, "a")], None)
        self.shown(SIDE_BY_SIDE, [(0, "b")], None)
        self.shown(SIDE_BY_SIDE, [(0, "a"), (1, "b")], None)
        self.shown(LOOP, [(0, "odd")], None)
        self.shown(LOOP, [(0, "a")], 1)
        self.shown(LONELY, [(0, "odd")], None)
        self.shown(LONELY, [(0, "a")], None)

    def test_places_and_companies_that_are_not_there(self):
        for place in NO_NUMBERS + (-1, 2, 10 ** 29):
            for reason in ("a", "odd"):
                self.shown(SIDE_BY_SIDE, [(place, reason)], None)
                self.shown(SIDE_BY_SIDE, [(1, "a"), (place, reason)], None)
        for reason in NO_COMPANIES + ("c", "z", "Odd", "odd ", "od", "dd", b"odd", ["odd"], ("odd",), 3):
            self.shown(SIDE_BY_SIDE, [(0, reason)], None)
            self.shown(SIDE_BY_SIDE, [(1, "a"), (0, reason)], None)
        self.shown(SIDE_BY_SIDE, [(True, "odd")], None)
        self.shown(SIDE_BY_SIDE, [(False, "a")], None)
        self.shown(TWO_PARTS, [(4, "b")], None)
        self.shown(EMPTY, [(0, "odd")], None)

    def test_each_place_once_at_most(self):
        self.shown(SIDE_BY_SIDE, [(0, "odd"), (0, "odd")], None)
        self.shown(SIDE_BY_SIDE, [(0, "odd"), (0, "a")], None)
        self.shown(SIDE_BY_SIDE, [(0, "odd"), (1, "a"), [0, "odd"]], None)

    def test_lists_and_tuples_mixed(self):
        for paper in ([(0, "a"), (1, "odd")], ((0, "a"), [1, "odd"]), [[0, "a"], [1, "odd"]], ([0, "a"], [1, "odd"])):
            self.shown(SIDE_BY_SIDE, paper, 1)
            self.shown(all_lists(SIDE_BY_SIDE), paper, 1)

    def test_anything(self):
        endless = []
        endless.append(endless)
        things = [thing for thing in NO_NUMBERS if thing not in ([], ())]
        things += [1, "odd", "0:odd", object(), endless, {0: "odd"}, {(0, "odd")}, (0, "odd"), [0, "odd"], "ab"]
        for thing in things:
            for web in (EMPTY, LONELY, SIDE_BY_SIDE):
                self.shown(web, thing, None)
        for thing in things + [[], (), [(0, "odd")], (0,), (0, "odd", "odd"), ("odd", 0), {0: 0, 1: "odd"}]:
            if thing not in ((0, "odd"), [0, "odd"]):
                self.shown(SIDE_BY_SIDE, [thing], None)
                self.shown(SIDE_BY_SIDE, [(0, "odd"), thing], None)

    def test_every_paper_of_small_webs(self):
        for web in itertools.chain(webs_of(2, 3, "ab"), webs_of(1, 4, "ab"), (ONE_COMPANY, TWO_PARTS, SIDE_BY_SIDE)):
            told = []
            for reasons in itertools.product((None, "odd", "a", "b", "c"), repeat=web[0]):
                paper = [(place, reason) for place, reason in enumerate(reasons) if reason]
                due = self.by_hand(web, paper)
                self.shown(web, paper, due)
                self.shown(web, paper[::-1], due)
                told.append(due)
            self.assertEqual(max(due for due in told if due is not None), fewest(web))

    def by_hand(self, web, paper):
        shown = {}
        for place, reason in paper:
            ends = [web[1][number][2] for number, _ in ends_at(web, place)]
            shown[place] = len(ends) % 2 if reason == "odd" else 2 * ends.count(reason) - len(ends)
            if shown[place] <= 0:
                return None
        total = 0
        for part in parts_of(web):
            places = {place for number in part for place in web[1][number][:2]}
            total += max(1, -(-sum(shown.get(place, 0) for place in places) // 2))
        return total

    def test_what_is_no_web(self):
        for web in NO_WEBS:
            for paper in ([], None, [(0, "odd")]):
                with self.assertRaises(NoWeb):
                    shown_by(web, paper)


class PaperOf(unittest.TestCase):
    def check(self, web):
        paper = paper_of(web)
        self.assertIs(type(paper), list)
        for entry in paper:
            self.assertIs(type(entry), tuple)
            self.assertEqual([type(thing) for thing in entry], [int, str])
        self.assertEqual(shown_by(web, paper), fewest(web), (web, paper))
        self.assertEqual(repr(paper_of(all_lists(web))), repr(paper))

    def test_ordinary(self):
        for web in WEBS + (THREE_PARTS,):
            self.check(web)

    def test_no_wants_need_no_reasons(self):
        for web in (EMPTY, LONELY, TRIANGLE, ALL_AT_ONE):
            self.assertEqual(paper_of(web), [])

    def test_small_webs(self):
        for web in small_webs():
            self.check(web)

    def test_great_webs(self):
        for web in great_webs():
            self.check(web)


if __name__ == "__main__":
    unittest.main()
