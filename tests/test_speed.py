"""Each call answers at once, also for the largest webs and timetables."""

import itertools
import random
import time
import unittest

from hushweb.again import changes, may_again, rows_again, speakers_again
from hushweb.known import bearing, bears, deals, may, rows, sums
from hushweb.lone import lone, parts
from hushweb.roads import are_roads, least_band, roads
from hushweb.strength import fewest_ties, strength, strong_web, weakest
from hushweb.talks import say
from hushweb.turns import fewest_turns, is_timetable, timetable, unheard
from hushweb.views import is_view, joined, view
from hushweb.votes import sure, vote_rows, yeses
from hushweb.webs import Web
from tests import helpers

PEOPLE = list("abcdefgh")
AT_ONCE = 0.5


class Speed(unittest.TestCase):
    def timed(self, call, *arguments):
        start = time.perf_counter()
        found = call(*arguments)
        self.assertLess(time.perf_counter() - start, AT_ONCE, call)
        return found

    def test_eight_people_all_tied(self):
        rng = random.Random("speed")
        ties = helpers.all_ties(PEOPLE)
        for web in [Web(PEOPLE, ties, 100), Web(PEOPLE, [tie for tie in ties if tie != ("c", "f")], 100)]:
            coins = helpers.random_numbers(rng, web.ties, 100)
            silent = {person: 0 for person in PEOPLE}
            for messages in [helpers.random_numbers(rng, PEOPLE, 100), {**silent, "d": 99}, {**silent, "a": 1, "g": 1}]:
                for band in [[], ["b"], list("hag"), PEOPLE]:
                    self.talk(web, band, coins, messages)
            self.web(web)

    def talk(self, web, band, coins, messages):
        seen = self.timed(view, web, band, coins, messages)
        self.assertTrue(self.timed(is_view, web, seen))
        self.timed(joined, web, seen, view(web, ["c"], coins, messages))
        self.timed(lone, web, seen)
        for call in [sums, rows]:
            self.timed(call, web, seen)
        for call in [may, deals]:
            self.timed(call, web, seen, messages)
        borne = self.timed(bearing, web, seen, messages)
        self.assertTrue(self.timed(bears, web, seen, messages, borne))
        if max(messages.values()) == 1:
            for call in [yeses, vote_rows, sure]:
                self.timed(call, web, seen)
        series = [say(web, coins, messages)] * 4
        for call in [changes, rows_again, speakers_again]:
            self.timed(call, web, seen, series)
        self.assertTrue(self.timed(may_again, web, seen, series, [messages] * 5))

    def web(self, web):
        for one, other in [("a", "h"), ("c", "f")]:
            found = self.timed(roads, web, one, other)
            self.assertTrue(self.timed(are_roads, web, one, other, found))
            self.assertFalse(self.timed(are_roads, web, one, other, [found[-1]] * 1500))
            self.timed(least_band, web, one, other)
            self.timed(parts, web, ["b", "d"], one, other)
        self.timed(strength, web)
        self.timed(weakest, web)
        for size in range(7):
            self.timed(fewest_ties, 8, size)
            self.timed(strong_web, PEOPLE, size, 100)

    def test_fifty_people(self):
        names = [first + second for first in PEOPLE for second in PEOPLE][:50]
        table = self.timed(timetable, names)
        self.assertEqual(self.timed(fewest_turns, 50), 8)
        # Nobody is unheard in the last ones, so that all groups are gone through.
        large = [tuple(turn for turn in range(1, 21) if turn not in left)
                 for left in itertools.combinations(range(1, 21), 2)][:50]
        some = [turns for turns in itertools.product(range(1, 5), range(5, 9), range(9, 13))
                if sum(turns) % 2 == 0][:50]
        for choices in [list(table.values()), large, some]:
            tried = dict(zip(names, choices))
            self.assertTrue(self.timed(is_timetable, tried))
            for many in [1, 2, 3]:
                self.timed(unheard, tried, many)


if __name__ == "__main__":
    unittest.main()
