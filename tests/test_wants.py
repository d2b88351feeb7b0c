"""Points 8 and 9: wants and plans. And point 4, as far as it speaks of them."""

import itertools
import unittest
from math import comb, factorial

from changeride.errors import NoPlace
from changeride.wants import plan_at, plan_shows, plans_counted, want_at, wants
from changeride.webs import loosened, merged, painted, web_of
from tests.samples import (
    ALL_AT_ONE,
    EMPTY,
    FULL,
    LONELY,
    LOOP,
    NO_ENDS,
    NO_NUMBERS,
    ONE_COMPANY,
    SIDE_BY_SIDE,
    TRIANGLE,
    TWO_PARTS,
    WEBS,
    all_lists,
    all_plans,
    all_tuples,
    ends_by_hand,
    knot,
    star,
)

LETTERS = "abcdefghijklmnopqrstuvwxyz"


def small_webs():
    """Place 0 with up to six ends of up to four companies, by single lines and by loops."""
    for many in range(7):
        for companies in itertools.combinations_with_replacement("abcd", many):
            yield star(companies)
    for many in range(4):
        for companies in itertools.product("abc", repeat=many):
            yield knot(companies)
    for companies in itertools.product("ab", repeat=3):
        yield 2, ((0, 0, companies[0]), (1, 0, companies[1]), (0, 1, companies[2]))


class Wants(unittest.TestCase):
    def test_ordinary(self):
        self.assertEqual(wants(TRIANGLE), [0, 0, 0])
        self.assertEqual(wants(SIDE_BY_SIDE), [1, 1])
        self.assertEqual(wants(TWO_PARTS), [0, 0, 2, 0, 1, 1])

    def test_no_places_and_no_lines(self):
        self.assertEqual(wants(EMPTY), [])
        self.assertEqual(wants(LONELY), [0, 0, 0])

    def test_one_company(self):
        self.assertEqual(wants(LOOP), [2])
        self.assertEqual(wants(ONE_COMPANY), [5, 1, 1, 1])

    def test_the_formula(self):
        for counts in itertools.product(range(6), repeat=3):
            companies = [company for company, count in zip("abc", counts) for _ in range(count)]
            ends = sum(counts)
            due = max(2 * max(counts) - ends, 0, 1 if ends % 2 else 0)
            self.assertEqual(want_at(star(companies), 0), due, counts)
            self.assertEqual(wants(star(companies)), [due] + [1] * ends)

    def test_no_plan_leaves_fewer_alone(self):
        for web in small_webs():
            least = min(len(alone) for _, alone in all_plans(web, ends_by_hand(web, 0)))
            self.assertEqual(want_at(web, 0), least, web)

    def test_the_list_and_the_single_wants_agree(self):
        for web in WEBS:
            due = wants(web)
            self.assertIs(type(due), list)
            self.assertEqual(len(due), web[0])
            self.assertEqual([want_at(web, place) for place in range(web[0])], due)
            self.assertEqual(wants(all_lists(web)), due)

    def test_sixty_loops(self):
        self.assertEqual(want_at(knot("a" * 60), 0), 120)
        self.assertEqual(want_at(knot("a" * 31 + "b" * 29), 0), 4)
        self.assertEqual(want_at(knot("a" * 30 + "b" * 29 + "c"), 0), 0)

    def test_wrong_place(self):
        for web in (EMPTY, LONELY, TRIANGLE, FULL):
            for place in NO_NUMBERS + (-1, web[0], 10 ** 29):
                with self.assertRaises(NoPlace, msg=repr(place)):
                    want_at(web, place)


class PlanAt(unittest.TestCase):
    def check(self, web, place):
        plan = plan_at(web, place)
        self.assertIs(type(plan), tuple)
        pairs, alone = plan
        self.assertIs(type(pairs), list)
        self.assertIs(type(alone), list)
        for pair in pairs:
            self.assertIs(type(pair), tuple)
            one, other = pair
            self.assertNotEqual(web[1][one[0]][2], web[1][other[0]][2])
        ends = [end for pair in pairs for end in pair] + alone
        self.assertTrue(all(type(end) is tuple for end in ends))
        self.assertEqual(sorted(ends), ends_by_hand(web, place))
        self.assertEqual(len(alone), want_at(web, place))
        self.assertTrue(plan_shows(web, place, plan))

    def test_all_webs(self):
        for web in WEBS:
            for place in range(web[0]):
                self.check(web, place)

    def test_small_webs(self):
        for web in small_webs():
            self.check(web, 0)

    def test_many_counts(self):
        for counts in itertools.product(range(5), repeat=4):
            self.check(star([company for company, count in zip("cabd", counts) for _ in range(count)]), 0)

    def test_companies_in_turn(self):
        for many in range(61):
            for companies in ("ab", "abc", LETTERS):
                self.check(knot([companies[k % len(companies)] for k in range(many)]), 0)
                self.check(star([companies[k % len(companies)] for k in range(many)]), 0)

    def test_no_ends(self):
        self.assertEqual(plan_at(LONELY, 1), ([], []))

    def test_webs_as_lists(self):
        for web in WEBS:
            for place in range(web[0]):
                self.assertEqual(plan_at(all_lists(web), place), plan_at(web, place))

    def test_wrong_place(self):
        for web in (EMPTY, LONELY, TRIANGLE):
            for place in NO_NUMBERS + (-1, web[0], 10 ** 29):
                with self.assertRaises(NoPlace):
                    plan_at(web, place)


class PlanShows(unittest.TestCase):
    def shows(self, plan, due, web=SIDE_BY_SIDE, place=0):
        told = plan_shows(web, place, plan)
        self.assertIs(told, due, plan)

    def test_plans(self):
        self.shows(([((0, 0), (2, 1))], [(1, 0)]), True)
        self.shows(([((2, 1), (1, 0))], [(0, 0)]), True)
        self.shows(([], [(1, 0), (2, 1), (0, 0)]), True)

    def test_a_plan_may_leave_more_alone_than_wanted(self):
        self.shows(([], [(0, 0), (2, 1)]), True, TRIANGLE)

    def test_lists_or_tuples(self):
        plan = ([((0, 0), (2, 1))], [(1, 0)])
        self.shows(all_tuples(plan), True)
        self.shows(all_lists(all_tuples(plan)), True)
        self.assertTrue(plan_shows(all_lists(SIDE_BY_SIDE), 0, all_lists(all_tuples(plan))))

    def test_every_small_plan(self):
        for web in small_webs():
            for plan in all_plans(web, ends_by_hand(web, 0)):
                self.assertIs(plan_shows(web, 0, plan), True)

    def test_an_end_left_out_or_told_twice(self):
        self.shows(([((0, 0), (2, 1))], []), False)
        self.shows(([], [(0, 0), (1, 0)]), False)
        self.shows(([((0, 0), (2, 1))], [(1, 0), (1, 0)]), False)
        self.shows(([((0, 0), (2, 1))], [(1, 0), (0, 0)]), False)
        self.shows(([((0, 0), (2, 1)), ((0, 0), (2, 1))], [(1, 0)]), False)
        self.shows(([((0, 0), (2, 1)), ((1, 0), (2, 1))], []), False)
        self.shows(([], [(0, 0), (0, 0), (1, 0)]), False)

    def test_ends_of_another_place(self):
        self.shows(([((0, 0), (2, 1))], [(1, 1)]), False)
        self.shows(([((0, 1), (2, 0))], [(1, 1)]), False)
        self.shows(([((0, 0), (2, 1))], [(1, 0), (1, 1)]), False)
        self.shows(([((0, 0), (2, 0))], [(1, 0)]), False)

    def test_pairs_of_one_company(self):
        self.shows(([((0, 0), (1, 0))], [(2, 1)]), False)
        self.shows(([((0, 0), (0, 1))], []), False, LOOP)
        self.shows(([((0, 0), (0, 0))], [(1, 0), (2, 1)]), False)

    def test_a_place_without_ends(self):
        self.shows(([], []), True, LONELY)
        self.shows([(), ()], True, LONELY)
        self.shows(([], [(0, 0)]), False, LONELY)

    def test_anything(self):
        endless = []
        endless.append(endless)
        wrong = [0, 1, -1, 10 ** 29, 0.5, "", "ab", "[]", b"ab", {}, {0: [], 1: []}, set(), object(), endless]
        wrong += [True, False, None, [], (), [[]], ([],), ([], [], []), ([], None), (None, []), (0, 0), ("", "")]
        wrong += [({}, {}), ([], {}), ([], ""), ("", []), ([None], []), ([], [None]), ([[]], []), ([], [[]])]
        wrong += [([endless], []), ([], endless), (endless, [])]
        for plan in wrong:
            for web in (LONELY, SIDE_BY_SIDE, TRIANGLE):
                self.shows(plan, False, web)

    def test_wrong_ends(self):
        for end in NO_ENDS + ((3, 0), [3, 1]):
            self.shows(([((0, 0), (2, 1))], [end]), False)
            self.shows(([((0, 0), (2, 1))], [(1, 0), end]), False)
            self.shows(([((0, 0), end)], [(1, 0)]), False)
            self.shows(([(end, (2, 1))], [(1, 0)]), False)
            self.shows(([(end, end)], []), False, LOOP)
        self.shows(([((True, 0), (2, 1))], [(0, 0)]), False)
        self.shows(([((1, False), (2, 1))], [(0, 0)]), False)
        self.shows(([((1, 0), (2, True))], [(0, 0)]), False)

    def test_wrong_pairs(self):
        for pair in NO_NUMBERS + (((0, 0),), ((0, 0), (2, 1), (1, 0)), "ab", ((0, 0, 0), (2, 1)), (0, 0)):
            self.shows(([pair], [(1, 0)]), False)
            self.shows(([pair, ((0, 0), (2, 1))], [(1, 0)]), False)

    def test_the_place_goes_first(self):
        for place in NO_NUMBERS + (-1, 2, 10 ** 29):
            for plan in (None, 0, True, "plan", ([], []), ([((0, 0), (2, 1))], [(1, 0)])):
                with self.assertRaises(NoPlace):
                    plan_shows(SIDE_BY_SIDE, place, plan)
        with self.assertRaises(NoPlace):
            plan_shows(EMPTY, 0, ([], []))


class PlansCounted(unittest.TestCase):
    def test_ordinary(self):
        self.assertEqual(plans_counted(TRIANGLE, 0), 1)
        self.assertEqual(plans_counted(star("abcd"), 0), 3)
        self.assertEqual(plans_counted(star("aabb"), 0), 2)
        self.assertEqual(plans_counted(star("aabc"), 0), 2)
        self.assertEqual(plans_counted(star("aabbcc"), 0), 8)

    def test_none(self):
        self.assertEqual(plans_counted(LOOP, 0), 0)
        self.assertEqual(plans_counted(SIDE_BY_SIDE, 0), 0)
        self.assertEqual(plans_counted(star("aaab"), 0), 0)
        self.assertEqual(plans_counted(star("a"), 0), 0)

    def test_no_ends_have_one_plan(self):
        self.assertEqual(plans_counted(LONELY, 0), 1)

    def test_small_webs_by_hand(self):
        for web in small_webs():
            due = sum(1 for _, alone in all_plans(web, ends_by_hand(web, 0)) if not alone)
            self.assertEqual(plans_counted(web, 0), due, web)
            self.assertEqual(due > 0, want_at(web, 0) == 0)

    def test_as_many_ends_as_sixty_lines_can_have(self):
        self.assertEqual(plans_counted(knot("ab" * 30), 0), factorial(60))
        self.assertEqual(plans_counted(ALL_AT_ONE, 0), comb(40, 20) ** 3 * factorial(20) ** 3)
        self.assertEqual(plans_counted(knot("a" * 31 + "b" * 29), 0), 0)
        self.assertEqual(plans_counted(knot("a" * 60), 0), 0)
        self.assertEqual(plans_counted(knot("a" * 30 + "b" * 29 + "c"), 0), factorial(60))

    def test_many_companies(self):
        due = 1
        for odd in range(1, 26, 2):
            due *= odd
        self.assertEqual(plans_counted(star(LETTERS), 0), due)
        for many in (20, 40, 60):
            companies = [LETTERS[k % 26] for k in range(many)]
            self.assertEqual(plans_counted(knot(companies), 0), self.by_exclusion(companies * 2))
            self.assertEqual(plans_counted(star(companies), 0), self.by_exclusion(companies))

    def by_exclusion(self, companies):
        """All pairings less those with pairs of one company."""

        def pairings(many):
            return factorial(many) // (2 ** (many // 2) * factorial(many // 2))

        signed = {0: 1}
        for company in sorted(set(companies)):
            count = companies.count(company)
            longer = {}
            for pairs, ways in signed.items():
                for more in range(count // 2 + 1):
                    taken = (-1) ** more * ways * comb(count, 2 * more) * pairings(2 * more)
                    longer[pairs + more] = longer.get(pairs + more, 0) + taken
            signed = longer
        return sum(ways * pairings(len(companies) - 2 * pairs) for pairs, ways in signed.items())

    def test_webs_as_lists(self):
        for web in WEBS:
            for place in range(web[0]):
                self.assertEqual(plans_counted(all_lists(web), place), plans_counted(web, place))

    def test_it_is_a_whole_number(self):
        for web in (LONELY, LOOP, TRIANGLE, SIDE_BY_SIDE):
            self.assertIs(type(plans_counted(web, 0)), int)
            self.assertIs(type(want_at(web, 0)), int)

    def test_wrong_place(self):
        for web in (EMPTY, LONELY, TRIANGLE):
            for place in NO_NUMBERS + (-1, web[0], 10 ** 29):
                with self.assertRaises(NoPlace):
                    plans_counted(web, place)


class WebsTold(unittest.TestCase):
    """What this program tells may be handed in, also beyond the limits."""

    def test_loosened_ends_stay_alone(self):
        web = web_of(*ALL_AT_ONE)
        for line in range(60):
            web = loosened(web, (line, 0))
        self.assertEqual(wants(web), [0] + [1] * 60)
        self.assertEqual(len(plan_at(web, 0)[0]), 30)

    def test_painted_and_merged(self):
        self.assertEqual(wants(painted(TRIANGLE, 0, "b")), [0, 2, 0])
        self.assertEqual(wants(merged(TRIANGLE, "c", "a")), [2, 0, 0])
        self.assertEqual(plans_counted(painted(TRIANGLE, 0, "b"), 1), 0)


if __name__ == "__main__":
    unittest.main()
