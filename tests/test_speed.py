"""Each call answers at once, also for the largest webs and timetables."""

import itertools
import random
import time
import unittest

from hushweb.again import changes, may_again, rows_again, speakers_again
from hushweb.cases import case_tree, is_case_tree
from hushweb.freecoins import bearing_with, free_ties, is_free
from hushweb.histories import against, bears_all, deal_of, deals_all, may_all, served, speaks_against
from hushweb.known import bearing, bears, deals, may, rows, sums
from hushweb.lone import lone, parts
from hushweb.openings import are_liars, fewest_liars, in_fewest, is_opening, torn, unfit
from hushweb.pools import opened, pooled
from hushweb.roads import are_roads, least_band, roads
from hushweb.room import Room
from hushweb.shell import Shell
from hushweb.strength import fewest_ties, strength, strong_web, weakest
from hushweb.talks import say
from hushweb.texts import format_coins, format_numbers, format_web, parse_coins, parse_numbers, parse_web
from hushweb.turns import fewest_turns, is_timetable, timetable, unheard
from hushweb.views import is_view, joined, view
from hushweb.votes import sure, vote_rows, yeses
from hushweb.webs import Web
from tests import helpers

PEOPLE = list("abcdefgh")
AT_ONCE = 0.5


class Speed(unittest.TestCase):
    def timed(self, call, *arguments):
        start = time.perf_counter()
        found = call(*arguments)
        self.assertLess(time.perf_counter() - start, AT_ONCE, call)
        return found

    def test_eight_people_all_tied(self):
        rng = random.Random("speed")
        ties = helpers.all_ties(PEOPLE)
        for web in [Web(PEOPLE, ties, 100), Web(PEOPLE, [tie for tie in ties if tie != ("c", "f")], 100)]:
            coins = helpers.random_numbers(rng, web.ties, 100)
            silent = {person: 0 for person in PEOPLE}
            for messages in [helpers.random_numbers(rng, PEOPLE, 100), {**silent, "d": 99}, {**silent, "a": 1, "g": 1}]:
                for band in [[], ["b"], list("hag"), PEOPLE]:
                    self.talk(web, band, coins, messages)
            self.web(web)

    def talk(self, web, band, coins, messages):
        seen = self.timed(view, web, band, coins, messages)
        self.assertTrue(self.timed(is_view, web, seen))
        self.timed(joined, web, seen, view(web, ["c"], coins, messages))
        self.timed(lone, web, seen)
        for call in [sums, rows]:
            self.timed(call, web, seen)
        for call in [may, deals]:
            self.timed(call, web, seen, messages)
        borne = self.timed(bearing, web, seen, messages)
        self.assertTrue(self.timed(bears, web, seen, messages, borne))
        if max(messages.values()) == 1:
            for call in [yeses, vote_rows, sure]:
                self.timed(call, web, seen)
        series = [say(web, coins, messages)] * 4
        for call in [changes, rows_again, speakers_again]:
            self.timed(call, web, seen, series)
        self.assertTrue(self.timed(may_again, web, seen, series, [messages] * 5))
        free = self.timed(free_ties, web, band)
        self.assertTrue(self.timed(is_free, web, band, free))
        self.timed(is_free, web, band, [("a", "b")] * 2500)
        self.assertEqual(self.timed(bearing_with, web, seen, messages, {tie: coins[tie] for tie in free}), coins)
        self.timed(pooled, web, seen, view(web, ["c", "e"], coins, messages))
        self.timed(opened, web, seen, {tie: coins[tie] for tie in list(coins)[::2]})
        self.openings(web, coins, messages)
        self.texts(web, coins, messages, band)

    def openings(self, web, coins, messages):
        for turned in [0, 1, 9]:
            opening = {person: {tie: (coins[tie] + turned * (person == tie[0])) % 100 for tie in web.ties if person in tie}
                       for person in web.people}
            fitting = {person: (sum(number for tie, number in opening[person].items() if tie[0] == person)
                                - sum(number for tie, number in opening[person].items() if tie[1] == person)) % 100
                       for person in web.people}
            self.assertTrue(self.timed(is_opening, web, opening))
            self.timed(torn, web, opening)
            for sayings in [fitting, say(web, coins, messages)]:
                self.timed(unfit, web, opening, sayings)
                liars = self.timed(fewest_liars, web, opening, sayings)
                self.assertTrue(self.timed(are_liars, web, opening, sayings, liars))
                self.timed(in_fewest, web, opening, sayings)
                for size in range(8):
                    tree = self.timed(case_tree, web, opening, sayings, size)
                    self.assertEqual(self.timed(is_case_tree, web, opening, sayings, size, tree), tree is not None)

    def texts(self, web, coins, messages, band):
        texts = [self.timed(format_web, web), self.timed(format_coins, web, coins), self.timed(format_numbers, web, messages)]
        self.assertEqual(self.timed(parse_web, texts[0]), web)
        self.assertEqual(self.timed(parse_coins, web, texts[1]), coins)
        self.assertEqual(self.timed(parse_numbers, web, texts[2]), messages)
        shell = Shell()
        words = [text.replace(" ", "_").replace("\n", "/") for text in texts]
        lines = [f"{first} w {word}" for first, word in zip(["web", "coins", "talk"], words)]
        lines += [f"{first} w {'+'.join(band) or '.'}" for first in ["sums", "lone", "rows", "deals", "pieces"]]
        for line in lines + ["part w a h", "part w c f", "strength w", "webs"]:
            self.timed(shell.run, line)

    def web(self, web):
        for one, other in [("a", "h"), ("c", "f")]:
            found = self.timed(roads, web, one, other)
            self.assertTrue(self.timed(are_roads, web, one, other, found))
            self.assertFalse(self.timed(are_roads, web, one, other, [found[-1]] * 1500))
            self.timed(least_band, web, one, other)
            self.timed(parts, web, ["b", "d"], one, other)
        self.timed(strength, web)
        self.timed(weakest, web)
        for size in range(7):
            self.timed(fewest_ties, 8, size)
            self.timed(strong_web, PEOPLE, size, 100)

    def test_a_room_of_a_thousand_calls(self):
        rng = random.Random("thousand")
        ties = helpers.all_ties(PEOPLE)
        room = Room(100)
        for name in PEOPLE:
            room.join(name)
        for one, other in ties:
            room.tie(one, other, rng.randrange(100))
        while len(room) < 990:
            self.timed(room.talk, {person: rng.randrange(100) for person in PEOPLE})
            if len(room) % 7 == 0:
                self.timed(room.tie, *rng.choice(ties), rng.randrange(100))
        silent = {person: 0 for person in PEOPLE}
        for call, *told in [(room.join, "new"), (room.leave, "h"), (room.join, "h"), (room.tie, "a", "h", 4),
                            (room.untie, "h", "a"), (room.talk, {"h": 99}), (room.join, "i"), (room.web,), (room.copy,)]:
            try:
                self.timed(call, *told)
            except ValueError:
                pass
        talks = self.timed(lambda: room.talks)
        self.timed(lambda: (room.people, room.coins, len(room)))
        for weights in [[silent] * len(talks), [{**silent, "a": 1}] * len(talks),
                        [{person: 1 for person in PEOPLE}] * len(talks)]:
            for band in [[], ["a"], PEOPLE]:
                self.timed(room.known, band, weights)
        for index in [0, 400, len(talks) - 1]:
            self.timed(room.seen, index, ["c", "a"])
        for steps in [1, 20, len(room) - 30]:
            start = time.perf_counter()
            room.undo(steps=steps)
            self.assertLess(time.perf_counter() - start, AT_ONCE)

    def test_histories_of_forty_talks_and_sixty_coins(self):
        for modulus, many, kept in [(100, 28, 1), (96, 20, 2), (97, 28, 4), (2, 16, 1), (60, 8, 3)]:
            rng = random.Random(f"histories {modulus}")
            ties = helpers.all_ties(PEOPLE)
            rng.shuffle(ties)
            room = Room(modulus)
            for name in PEOPLE:
                room.join(name)
            for one, other in ties[:many]:
                room.tie(one, other, rng.randrange(modulus))
            while len(room.talks) < 40:
                room.talk(helpers.random_numbers(rng, PEOPLE, modulus))
                if len(served(room)) < 60 - kept and len(room.talks) < 39:
                    for _ in range(kept):
                        room.tie(*rng.choice(ties), rng.randrange(modulus))
            self.assertGreater(len(self.timed(served, room)), 50)
            self.assertLessEqual(len(served(room)), 60)
            true = [room.seen(index, PEOPLE)[1] for index in range(40)]
            for band in [[], ["a"], ["d", "b"], PEOPLE]:
                self.history(rng, room, band, true, modulus)

    def history(self, rng, room, band, true, modulus):
        turned = [dict(messages) for messages in true]
        for index in range(0, 40, 3):
            one, other = rng.sample(PEOPLE, 2)
            turned[index][one] = (turned[index][one] + 1) % modulus
            turned[index][other] = (turned[index][other] - 1) % modulus
        drawn = [helpers.random_numbers(rng, PEOPLE, modulus) for _ in true]
        for lists in [true, turned, drawn]:
            possible = self.timed(may_all, room, band, lists)
            self.assertEqual(self.timed(deals_all, room, band, lists) > 0, possible)
            deal, weights = self.timed(deal_of, room, band, lists), self.timed(against, room, band, lists)
            self.assertEqual(self.timed(bears_all, room, band, lists, deal), possible)
            self.assertEqual(self.timed(speaks_against, room, band, lists, weights), not possible)

    def test_fifty_people(self):
        names = [first + second for first in PEOPLE for second in PEOPLE][:50]
        table = self.timed(timetable, names)
        self.assertEqual(self.timed(fewest_turns, 50), 8)
        # Nobody is unheard in the last ones, so that all groups are gone through.
        large = [tuple(turn for turn in range(1, 21) if turn not in left)
                 for left in itertools.combinations(range(1, 21), 2)][:50]
        some = [turns for turns in itertools.product(range(1, 5), range(5, 9), range(9, 13))
                if sum(turns) % 2 == 0][:50]
        for choices in [list(table.values()), large, some]:
            tried = dict(zip(names, choices))
            self.assertTrue(self.timed(is_timetable, tried))
            for many in [1, 2, 3]:
                self.timed(unheard, tried, many)


if __name__ == "__main__":
    unittest.main()
