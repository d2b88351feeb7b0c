"""Point 4: what holds over the whole program, each stage held against the others."""

import itertools
import unittest

from changeride.added import new_lines, new_needed
from changeride.desk import Desk
from changeride.rides import about, least_round, round_is
from changeride.riding import fewest, paper_of, riding, riding_is, shown_by
from changeride.texts import read_ride, read_web, ride_text, web_text
from changeride.told import one_ride, ride_by, round_of
from changeride.turnings import all_rounds, heaps, row_to, turned, turnings
from changeride.wants import wants
from changeride.webs import ends_at, parts_of
from tests.samples import (
    ALL_AT_ONE,
    EMPTY,
    FULL,
    LONELY,
    LOOP,
    ONE_COMPANY,
    SIDE_BY_SIDE,
    TRIANGLE,
    TWO_PARTS,
    follows,
    knot,
    mixed_web,
    rides_along_all,
    round_web,
    rounds_along_all,
    webs_of,
)

SEEDS = 30


def small_webs():
    for places, many, companies in ((1, 3, "abc"), (2, 2, "abc"), (2, 3, "ab"), (3, 3, "ab"), (1, 4, "ab"), (2, 4, "ab")):
        yield from webs_of(places, many, companies)
    for seed in range(SEEDS):
        yield round_web(seed, 1 + seed % 3, 4 + seed % 2, "abc")[0]
    yield from (EMPTY, LONELY, LOOP, SIDE_BY_SIDE, TRIANGLE, ONE_COMPANY, TWO_PARTS)


def great_webs():
    """Webs up to twenty-four places and sixty lines."""
    yield from (FULL, ALL_AT_ONE, knot("a" * 30 + "b" * 30), knot("a" * 60))
    for seed in range(SEEDS):
        yield mixed_web(seed, 1 + seed % 24, 60 - seed, ("ab", "abc", "abcdef")[seed % 3])
        yield mixed_web(seed, 24, 3 + seed, "abcd")
        yield round_web(seed, 1 + seed % 24, 31 + seed, ("abc", "abcdef")[seed % 2])[0]


def alone_by(web, told):
    """How many ends at each place a riding does not go on by, by places."""
    gone_on = set()
    for word, way in told:
        pairs = list(zip(way, way[1:])) + ([(way[-1], way[0])] if word == "round" else [])
        for end, following in pairs:
            gone_on |= {(end[0], 1 - end[1]), following}
    return [len([end for end in ends_at(web, place) if end not in gone_on]) for place in range(web[0])]


class Whole(unittest.TestCase):
    def test_the_fewest_with_a_paper_place_by_place(self):
        for web in itertools.chain(small_webs(), great_webs()):
            told = riding(web)
            self.assertTrue(riding_is(web, told))
            self.assertEqual(len(told), fewest(web))
            self.assertEqual(shown_by(web, paper_of(web)), fewest(web))
            self.assertEqual([place for place, _ in paper_of(web)], [at for at, want in enumerate(wants(web)) if want > 0])
            # What a place wants is left alone there, and no more than that.
            self.assertEqual(alone_by(web, told), wants(web))

    def test_what_is_wanted_is_left_alone_whatever_is_done(self):
        tried = 0
        for web in small_webs():
            for ride in rides_along_all(web):
                alone = alone_by(web, [("round" if follows(web, ride[-1], ride[0]) else "ride", ride)])
                self.assertTrue(all(one >= want for one, want in zip(alone, wants(web))), (web, ride))
                tried += 1
        self.assertGreater(tried, 1000)

    def test_one_round_where_nothing_is_wanted_and_all_hangs_together_and_only_there(self):
        rounds = 0
        for web in itertools.chain(small_webs(), great_webs()):
            due = sum(wants(web)) == 0 and len(parts_of(web)) == 1
            told = round_of(web)
            self.assertEqual(told is not None, due, web)
            self.assertEqual([word for word, _ in riding(web)] == ["round"], due)
            self.assertEqual(len(web[1]) > 0 and new_needed(web) == 0, due)
            if due:
                self.assertTrue(round_is(web, told))
                self.assertEqual(least_round(web, told), told)
                rounds += 1
        self.assertGreater(rounds, 100)

    def test_least_rides_and_rounds_just_where_there_are_some(self):
        for web in small_webs():
            rides, rounds = rides_along_all(web), rounds_along_all(web)
            self.assertEqual(one_ride(web), min(rides, default=None))
            self.assertEqual(round_of(web), min(rounds, default=None))
            for first, last in itertools.product({ride[0] for ride in rides}, {ride[-1] for ride in rides}):
                due = [ride for ride in rides if ride[0] == first and ride[-1] == last]
                self.assertEqual(ride_by(web, first=first, last=last), min(due, default=None))

    def test_new_lines_make_one_round_of_all(self):
        for web in itertools.chain(small_webs(), great_webs()):
            if web != FULL and len(web[1]) > 0:
                whole = (web[0], web[1] + tuple(new_lines(web, "z")))
                self.assertEqual(len(whole[1]), len(web[1]) + new_needed(web))
                self.assertIsNotNone(round_of(whole), web)

    def test_rounds_by_turnings(self):
        rows = 0
        for web in small_webs():
            rounds = all_rounds(web)
            self.assertEqual(rounds, sorted(min(least_round(web, ring), ring) for ring in rounds))
            self.assertEqual({tuple(least_round(web, ring)) for ring in rounds_along_all(web)}, set(map(tuple, rounds)))
            self.assertEqual(rounds[:1], [] if round_of(web) is None else [round_of(web)])
            for ring in rounds[:3]:
                for turning in turnings(web, ring):
                    self.assertIn(least_round(web, turned(web, ring, turning)), rounds)
            if len(rounds) < 50:
                met = [ring for ring in rounds if row_to(web, about(web, rounds[0]), ring) is not None]
                self.assertEqual(heaps(web) == 1, len(rounds) > 0 and met == rounds)
                rows += len(met)
        self.assertGreater(rows, 300)

    def test_as_texts_and_at_a_desk(self):
        for web in itertools.chain(small_webs(), great_webs()):
            text = web_text(web)
            self.assertEqual(read_web(text), web)
            desk = Desk()
            for row in text.split("\n"):
                desk.say(row)
            self.assertEqual(desk.say("fewest"), str(fewest(web)))
            told = desk.say("round")
            self.assertEqual(None if told == "none" else read_ride(told), round_of(web))
            for _, way in riding(web):
                self.assertEqual(read_ride(ride_text(way)), way)


if __name__ == "__main__":
    unittest.main()
