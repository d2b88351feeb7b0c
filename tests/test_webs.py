"""Points 5, 6 and 7: webs, their ends and parts, and webs made otherwise."""

import itertools
import unittest

from changeride.errors import NoCompany, NoEnd, NoLine, NoPlace, NoWeb
from changeride.webs import ends_at, loosened, merged, painted, parts_of, web_of, with_line, without_line
from tests.samples import (
    ALL_AT_ONE,
    EMPTY,
    FULL,
    LONELY,
    LOOP,
    NO_COMPANIES,
    NO_ENDS,
    NO_NUMBERS,
    ONE_COMPANY,
    SIDE_BY_SIDE,
    TRIANGLE,
    TWO_PARTS,
    WEBS,
    all_lists,
    ends_by_hand,
)


class Told(unittest.TestCase):
    def same(self, told, due):
        """Equal, and of lists and tuples in the same places."""
        self.assertEqual(repr(told), repr(due))


class WebOf(Told):
    def test_lists_or_tuples_make_a_web_of_tuples(self):
        for web in WEBS:
            self.same(web_of(*web), web)
            self.same(web_of(*all_lists(web)), web)
            self.same(web_of(web[0], list(web[1])), web)
            self.same(web_of(web[0], tuple(all_lists(web[1]))), web)

    def test_wrong_places(self):
        for places in NO_NUMBERS + (-1, -(10 ** 29)):
            with self.assertRaises(NoWeb, msg=repr(places)):
                web_of(places, [])

    def test_wrong_lines(self):
        for lines in (True, False, None, 0, "", "a", "00a", {}, {(0, 0, "a"): 1}, {(0, 0, "a")}, 0.0, b""):
            with self.assertRaises(NoWeb, msg=repr(lines)):
                web_of(1, lines)

    def test_wrong_line(self):
        wrong = [None, True, 0, "00a", (), (0,), (0, 0), (0, 0, "a", "a"), {0: 0, 1: 0, 2: "a"}]
        wrong += [(place, 0, "a") for place in NO_NUMBERS + (-1, 2, 10 ** 29)]
        wrong += [(0, place, "a") for place in NO_NUMBERS + (-1, 2, 10 ** 29)]
        wrong += [(0, 0, company) for company in NO_COMPANIES]
        for line in wrong:
            for lines in ([line], [(0, 1, "a"), line], [line, (0, 1, "a")]):
                with self.assertRaises(NoWeb, msg=repr(lines)):
                    web_of(2, lines)

    def test_no_line_goes_to_a_web_without_places(self):
        with self.assertRaises(NoWeb):
            web_of(0, [(0, 0, "a")])

    def test_each_small_letter_is_a_company(self):
        for company in "abcdefghijklmnopqrstuvwxyz":
            self.same(web_of(1, [[0, 0, company]]), (1, ((0, 0, company),)))

    def test_letters_beyond_the_small_ones_are_none(self):
        for company in ("\u00e9", "\u00df", "\u03b1", "\u00aa"):
            with self.assertRaises(NoWeb):
                web_of(1, [(0, 0, company)])


class EndsAt(Told):
    def test_ordinary(self):
        self.same(ends_at(TRIANGLE, 0), [(0, 0), (2, 1)])
        self.same(ends_at(SIDE_BY_SIDE, 1), [(0, 1), (1, 1), (2, 0)])

    def test_loops_have_both_ends(self):
        self.same(ends_at(LOOP, 0), [(0, 0), (0, 1)])
        self.same(ends_at(ONE_COMPANY, 0), [(0, 0), (1, 0), (2, 0), (3, 0), (3, 1)])

    def test_no_ends(self):
        self.same(ends_at(LONELY, 2), [])

    def test_each_place_of_each_web(self):
        for web in WEBS:
            for place in range(web[0]):
                due = ends_by_hand(web, place)
                self.same(ends_at(web, place), due)
                self.same(ends_at(all_lists(web), place), due)

    def test_as_many_as_sixty_lines_can_have(self):
        self.same(ends_at(ALL_AT_ONE, 0), [(line, side) for line in range(60) for side in (0, 1)])

    def test_wrong_place(self):
        for web in (EMPTY, LONELY, TRIANGLE, FULL):
            for place in NO_NUMBERS + (-1, web[0], 10 ** 29, -(10 ** 29)):
                with self.assertRaises(NoPlace, msg=repr(place)):
                    ends_at(web, place)

    def test_what_is_no_web(self):
        for web in (None, 0, (), (1,), (1, (), ()), (True, ()), (1, ((0, 1, "a"),))):
            with self.assertRaises(NoWeb):
                ends_at(web, 0)


class PartsOf(Told):
    def test_ordinary(self):
        self.same(parts_of(TWO_PARTS), [[0, 2], [1, 3, 4]])
        self.same(parts_of(TRIANGLE), [[0, 1, 2]])

    def test_no_lines_no_parts(self):
        self.same(parts_of(EMPTY), [])
        self.same(parts_of(LONELY), [])

    def test_loops(self):
        self.same(parts_of((3, ((2, 2, "a"), (0, 0, "a"), (2, 2, "b"), (1, 1, "c")))), [[0, 2], [1], [3]])

    def test_a_late_line_joins_two_parts(self):
        lines = ((0, 1, "a"), (2, 3, "a"), (4, 5, "a"), (3, 0, "a"))
        self.same(parts_of((6, lines)), [[0, 1, 3], [2]])
        self.same(parts_of((6, lines + ((5, 1, "z"),))), [[0, 1, 2, 3, 4]])

    def test_a_long_chain_in_any_order(self):
        chain = [(k, k + 1, "a") for k in range(23)]
        for lines in (chain, chain[::-1], chain[::2] + chain[1::2]):
            self.same(parts_of((24, lines)), [list(range(23))])

    def test_all_small_webs(self):
        lines = [(one, other, "a") for one in range(4) for other in range(4)]
        for chosen in itertools.product(lines, repeat=3):
            self.same(parts_of((4, chosen)), self.by_hand(chosen))

    def by_hand(self, lines):
        parts = []
        for number, (one, other, _) in enumerate(lines):
            met = [part for part in parts if {one, other} & {place for line in part for place in lines[line][:2]}]
            parts = [part for part in parts if part not in met] + [sorted(sum(met, [number]))]
        return sorted(parts)

    def test_lists_or_tuples(self):
        for web in WEBS:
            self.same(parts_of(all_lists(web)), parts_of(web))


class WithLine(Told):
    def test_behind_the_others(self):
        self.same(with_line(LONELY, 2, 0, "x"), (3, ((2, 0, "x"),)))
        self.same(with_line(LOOP, 0, 0, "b"), (1, ((0, 0, "a"), (0, 0, "b"))))
        self.same(with_line(TRIANGLE, 1, 0, "a"), (3, TRIANGLE[1] + ((1, 0, "a"),)))
        self.same(with_line(all_lists(TRIANGLE), 1, 0, "a"), (3, TRIANGLE[1] + ((1, 0, "a"),)))

    def test_wrong_place(self):
        for place in NO_NUMBERS + (-1, 3, 10 ** 29):
            with self.assertRaises(NoPlace):
                with_line(TRIANGLE, place, 0, "a")
            with self.assertRaises(NoPlace):
                with_line(TRIANGLE, 0, place, "a")
        with self.assertRaises(NoPlace):
            with_line(EMPTY, 0, 0, "a")

    def test_wrong_company(self):
        for company in NO_COMPANIES:
            with self.assertRaises(NoCompany):
                with_line(TRIANGLE, 0, 1, company)

    def test_the_place_goes_first(self):
        for company in NO_COMPANIES:
            with self.assertRaises(NoPlace):
                with_line(TRIANGLE, 3, 0, company)
            with self.assertRaises(NoPlace):
                with_line(TRIANGLE, 0, 3, company)

    def test_beyond_sixty(self):
        self.same(with_line(FULL, 0, 23, "a"), (24, FULL[1] + ((0, 23, "a"),)))


class WithoutLine(Told):
    def test_those_behind_are_one_less(self):
        one, two, three = TRIANGLE[1]
        self.same(without_line(TRIANGLE, 0), (3, (two, three)))
        self.same(without_line(TRIANGLE, 1), (3, (one, three)))
        self.same(without_line(TRIANGLE, 2), (3, (one, two)))
        self.same(without_line(all_lists(TRIANGLE), 1), (3, (one, three)))
        self.same(without_line(LOOP, 0), (1, ()))

    def test_a_line_less_again(self):
        for web in WEBS:
            if web[0]:
                self.same(without_line(with_line(web, 0, 0, "q"), len(web[1])), web)

    def test_wrong_line(self):
        for web in (EMPTY, LONELY, TRIANGLE, FULL):
            for line in NO_NUMBERS + (-1, len(web[1]), 10 ** 29):
                with self.assertRaises(NoLine):
                    without_line(web, line)


class Painted(Told):
    def test_of_another_company(self):
        one, two, three = TRIANGLE[1]
        self.same(painted(TRIANGLE, 0, "z"), (3, ((0, 1, "z"), two, three)))
        self.same(painted(TRIANGLE, 1, "a"), (3, (one, (1, 2, "a"), three)))
        self.same(painted(all_lists(TRIANGLE), 2, "a"), (3, (one, two, (2, 0, "a"))))

    def test_of_the_same_company(self):
        self.same(painted(TRIANGLE, 1, "b"), TRIANGLE)

    def test_wrong_line(self):
        for line in NO_NUMBERS + (-1, 3, 10 ** 29):
            with self.assertRaises(NoLine):
                painted(TRIANGLE, line, "a")

    def test_wrong_company(self):
        for company in NO_COMPANIES:
            with self.assertRaises(NoCompany):
                painted(TRIANGLE, 0, company)

    def test_the_line_goes_first(self):
        for company in NO_COMPANIES:
            with self.assertRaises(NoLine):
                painted(TRIANGLE, 3, company)


class Merged(Told):
    def test_all_lines_of_the_first(self):
        self.same(merged(TRIANGLE, "a", "b"), (3, ((0, 1, "b"), (1, 2, "b"), (2, 0, "c"))))
        self.same(merged(SIDE_BY_SIDE, "a", "z"), (2, ((0, 1, "z"), (0, 1, "z"), (1, 0, "b"))))
        self.same(merged(all_lists(SIDE_BY_SIDE), "b", "a"), (2, ((0, 1, "a"), (0, 1, "a"), (1, 0, "a"))))

    def test_of_the_same_one_it_is_as_it_is(self):
        for web in WEBS:
            self.same(merged(web, "a", "a"), web)
            self.same(merged(all_lists(web), "a", "a"), web)

    def test_a_company_without_lines(self):
        self.same(merged(TRIANGLE, "x", "a"), TRIANGLE)
        self.same(merged(EMPTY, "x", "a"), EMPTY)

    def test_wrong_company(self):
        for company in NO_COMPANIES:
            for pair in ((company, "a"), ("a", company), (company, company)):
                with self.assertRaises(NoCompany):
                    merged(TRIANGLE, *pair)


class Loosened(Told):
    def test_either_end(self):
        one, two, three = TRIANGLE[1]
        self.same(loosened(TRIANGLE, (0, 0)), (4, ((3, 1, "a"), two, three)))
        self.same(loosened(TRIANGLE, (1, 1)), (4, (one, (1, 3, "b"), three)))
        self.same(loosened(all_lists(TRIANGLE), [2, 0]), (4, (one, two, (3, 0, "c"))))

    def test_one_end_of_a_loop(self):
        self.same(loosened(LOOP, (0, 0)), (2, ((1, 0, "a"),)))
        self.same(loosened(LOOP, (0, 1)), (2, ((0, 1, "a"),)))

    def test_beyond_twenty_four_places(self):
        self.assertEqual(loosened(FULL, (59, 1))[0], 25)
        self.assertEqual(loosened(FULL, (59, 1))[1][59][1], 24)

    def test_wrong_end(self):
        for end in NO_ENDS + ((3, 0), (3, 1)):
            with self.assertRaises(NoEnd, msg=repr(end)):
                loosened(TRIANGLE, end)
        for end in ((0, 0), (0, 1)):
            with self.assertRaises(NoEnd):
                loosened(EMPTY, end)


if __name__ == "__main__":
    unittest.main()
