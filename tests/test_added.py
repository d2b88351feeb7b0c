"""Points 18 and 19: new lines. And point 4, as far as it speaks of them."""

import itertools
import unittest

from changeride.added import new_lines, new_needed
from changeride.errors import NoCompany, NoWeb
from changeride.told import round_of
from changeride.wants import wants
from changeride.webs import loosened, parts_of, with_line
from tests.samples import (
    ALL_AT_ONE,
    EMPTY,
    FULL,
    LONELY,
    LOOP,
    NO_COMPANIES,
    NO_WEBS,
    ONE_COMPANY,
    SIDE_BY_SIDE,
    TRIANGLE,
    TWO_PARTS,
    WEBS,
    all_lists,
    follows,
    knot,
    mixed_web,
    round_web,
    star,
    webs_in_order,
    webs_of,
)

# Two triangles that want nothing, a line that does, and a place that no line comes to.
APART = (
    9,
    ((0, 1, "a"), (1, 2, "b"), (2, 0, "c"), (3, 4, "a"), (4, 5, "b"), (5, 3, "c"), (6, 7, "a")),
)
LETTERS = "abcdefghijklmnopqrstuvwxyz"
SEEDS = 60


def small_webs():
    sizes = ((1, 3, "abc"), (1, 4, "ab"), (2, 2, "abc"), (2, 3, "ab"), (3, 2, "ab"), (3, 3, "a"), (4, 2, "a"))
    for places, many, companies in sizes:
        yield from webs_of(places, many, companies)
    yield from webs_in_order(2, 2, "ab")
    yield from (LOOP, SIDE_BY_SIDE, TRIANGLE, ONE_COMPANY, TWO_PARTS)


def great_webs():
    """Webs up to twenty-four places and sixty lines, of one part and of more, with wants and without."""
    yield from (FULL, ALL_AT_ONE, APART, knot("a" * 60), knot("ab" * 30), star("a" * 23), star("abcd" * 5))
    for seed in range(SEEDS):
        yield mixed_web(seed, 1 + seed % 24, 60, ("ab", "abc", "abcdefgh")[seed % 3])
        yield mixed_web(seed + 1000, 24, 4 + seed % 20, "abc")
        yield round_web(seed, 1 + seed % 24, 30 + seed % 31, "abcde")[0]
        yield beside(round_web(seed, 5, 10, "abc")[0], mixed_web(seed, 6, 9, "abc"), round_web(seed, 3, 20, "abc")[0])


def beside(*webs):
    """A web with these webs in it as parts, and one place more, that no line comes to."""
    places, lines = 0, ()
    for more, added in webs:
        lines += tuple((one + places, other + places, company) for one, other, company in added)
        places += more
    return places + 1, lines


def has_round(web):
    """Whether any round goes along all lines, by going through rides along ever more of them until one does."""
    many = len(web[1])

    def goes_on(begun):
        if len(begun) == many:
            return follows(web, begun[-1], begun[0])
        left = [number for number in range(many) if number not in [end[0] for end in begun]]
        ends = [(number, side) for number in left for side in (0, 1)]
        return any(goes_on(begun + [end]) for end in ends if follows(web, begun[-1], end))

    return many > 0 and goes_on([(0, 0)])


def with_new(web, lines):
    return web[0], web[1] + tuple(lines)


def all_ways(web, many, company):
    """All ways to add so many lines of a company. Neither their order nor which place comes first is of account."""
    pairs = list(itertools.combinations_with_replacement(range(web[0]), 2))
    for chosen in itertools.combinations_with_replacement(pairs, many):
        yield [(one, other, company) for one, other in chosen]


def free_company(web):
    return [company for company in LETTERS if company not in {line[2] for line in web[1]}][0]


def needed_by_hand(web):
    """What point 18 says, in its own words."""
    wanted = wants(web)
    sums = [sum(wanted[place] for place in {place for k in part for place in web[1][k][:2]}) for part in parts_of(web)]
    if len(sums) == 0:
        return 0
    return sums[0] // 2 if len(sums) == 1 else sum(max(want, 2) for want in sums) // 2


class Added(unittest.TestCase):
    def check(self, web, company):
        told = new_lines(web, company)
        self.assertIs(type(told), list)
        for line in told:
            self.assertIs(type(line), tuple)
            self.assertEqual(line[2], company)
            self.assertTrue(all(type(place) is int and 0 <= place < web[0] for place in line[:2]))
            self.assertEqual(len(line), 3)
        self.assertEqual(len(told), new_needed(web))
        return with_new(web, told)


class Ordinary(Added):
    def test_needed(self):
        for web, due in (
            (TRIANGLE, 0),
            (LOOP, 1),
            (SIDE_BY_SIDE, 1),
            (ONE_COMPANY, 4),
            (TWO_PARTS, 2),
            (APART, 3),
            ((2, ((0, 1, "a"),)), 1),
            (knot("ab"), 0),
            (knot("aab"), 1),
            (star("abc"), 2),
            (star("ab"), 1),
        ):
            self.assertEqual(new_needed(web), due, web)
            self.assertIs(type(new_needed(web)), int)

    def test_told(self):
        self.assertEqual(new_lines(TRIANGLE, "d"), [])
        self.assertEqual(new_lines(LOOP, "b"), [(0, 0, "b")])
        self.assertEqual(sorted(new_lines((2, ((0, 1, "a"),)), "b")[0][:2]), [0, 1])
        self.assertEqual(sorted(new_lines(SIDE_BY_SIDE, "z")[0][:2]), [0, 1])

    def test_no_lines(self):
        for web in (EMPTY, LONELY):
            self.assertEqual(new_needed(web), 0)
            self.assertEqual(new_lines(web, "a"), [])

    def test_parts_that_want_nothing_are_joined_too(self):
        triangles = (7, APART[1][:6])
        self.assertEqual(sum(wants(triangles)), 0)
        self.assertEqual(new_needed(triangles), 2)
        self.assertTrue(has_round(self.check(triangles, "d")))
        self.assertTrue(has_round(self.check(APART, "z")))

    def test_all_companies_but_one(self):
        web = knot(LETTERS[:25] + "a" * 24)
        self.assertEqual(new_needed(web), 1)
        self.assertIsNotNone(round_of(self.check(web, "z")))

    def test_lists_are_taken(self):
        for web in WEBS:
            if web != FULL:
                self.assertEqual(new_needed(all_lists(web)), new_needed(web))
                self.assertEqual(new_lines(all_lists(web), "z"), new_lines(web, "z"))


class Small(Added):
    def test_so_many_are_enough(self):
        for web in small_webs():
            for company in ("d", "z"):
                self.assertTrue(has_round(self.check(web, company)), web)

    def test_fewer_are_not(self):
        tried = 0
        for web in small_webs():
            for many in range(new_needed(web)):
                for lines in all_ways(web, many, "d"):
                    self.assertFalse(has_round(with_new(web, lines)), (web, lines))
                    tried += 1
        self.assertGreater(tried, 5000)

    def test_none_are_needed_just_where_there_is_a_round(self):
        for web in small_webs():
            self.assertEqual(new_needed(web) == 0, has_round(web), web)


class Great(Added):
    def test_so_many_as_the_point_says(self):
        for web in itertools.chain(great_webs(), small_webs(), WEBS):
            self.assertEqual(new_needed(web), needed_by_hand(web), web)

    def test_they_are_enough(self):
        for web in great_webs():
            if web != FULL:
                self.assertIsNotNone(round_of(self.check(web, free_company(web))), web)

    def test_once_added_none_are_needed(self):
        for web in great_webs():
            if web != FULL:
                whole = self.check(web, free_company(web))
                self.assertEqual(new_needed(whole), 0)
                self.assertEqual(new_lines(whole, free_company(whole)), [])

    def test_a_round_torn_open_needs_one(self):
        for seed in range(SEEDS):
            web, _ = round_web(seed, 1 + seed % 24, 60 - seed % 20, "abcd")
            self.assertEqual(new_needed(web), 0)
            torn = loosened(web, (seed % 40, seed % 2))
            self.assertEqual(new_needed(torn), 1)
            ((one, other, _),) = new_lines(torn, "z")
            self.assertIsNotNone(round_of(with_line(torn, one, other, "z")))


class Refused(unittest.TestCase):
    def test_no_company(self):
        for web in WEBS:
            for company in NO_COMPANIES:
                with self.assertRaises(NoCompany, msg=repr((web, company))):
                    new_lines(web, company)

    def test_a_company_that_is_there(self):
        for web in WEBS:
            there = {line[2] for line in web[1]}
            for company in LETTERS:
                if company in there:
                    with self.assertRaises(NoCompany, msg=repr((web, company))):
                        new_lines(web, company)
                else:
                    self.assertIs(type(new_lines(web, company)), list)

    def test_also_where_no_lines_are_needed(self):
        for company in ("a", "b", "c", "A", "", None):
            with self.assertRaises(NoCompany):
                new_lines(TRIANGLE, company)

    def test_what_is_no_web_goes_first(self):
        for web in NO_WEBS:
            with self.assertRaises(NoWeb, msg=repr(web)):
                new_needed(web)
            for company in ("a", "A", None):
                with self.assertRaises(NoWeb, msg=repr(web)):
                    new_lines(web, company)


if __name__ == "__main__":
    unittest.main()
