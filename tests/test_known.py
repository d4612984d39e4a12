"""What is known: promises 6, 7 and 11, and 2 as far as it is about them."""

import random
import unittest

from hushweb.errors import InvalidMessages, InvalidView, InvalidWeb
from hushweb.known import bearing, bears, deals, may, rows, sums
from hushweb.talks import are_coins, say
from hushweb.views import view
from hushweb.webs import Web
from tests import helpers, plain
from tests.helpers import answer


def some_of(rng, things, many):
    things = list(things)
    return things if len(things) <= many else rng.sample(things, many)


def moved(rng, web, seen, messages):
    """Messages with numbers moved within a piece or between people outside; some of them are still possible."""
    outside = [person for person in web.people if person not in seen[0]]
    if len(outside) < 2:
        return messages
    one, other = rng.sample(outside, 2)
    by = rng.randrange(web.modulus)
    return {**messages, one: (messages[one] + by) % web.modulus, other: (messages[other] - by) % web.modulus}


class AllDeals(unittest.TestCase):
    def test_small_webs_against_all_deals(self):
        rng = random.Random("deals")
        for web, seen in helpers.small_views("small"):
            borne = plain.all_borne(web, seen)
            self.assertEqual(answer(self, rows, web, seen), len(borne))
            self.assertEqual(len(set(borne.values())), 1)
            possible = [dict(zip(web.people, numbers)) for numbers in borne]
            for messages in some_of(rng, possible, 20) + some_of(rng, plain.all_messages(web), 60):
                many = borne[plain.row(web, messages)]
                self.assertEqual(deals(web, seen, messages), many)
                self.assertIs(may(web, seen, messages), many > 0)
                found = bearing(web, seen, messages)
                if many == 0:
                    self.assertIsNone(found)
                else:
                    self.assertIs(are_coins(web, found), True)
                    self.assertEqual(plain.messages_by(web, found, seen[3]), messages)
                    self.assertEqual({**found, **seen[2]}, found)
                    self.assertIs(bears(web, seen, messages, found), True)

    def test_small_webs_which_coins_bear(self):
        rng = random.Random("which")
        for web, seen in helpers.small_views("bear"):
            borne = [dict(zip(web.people, numbers)) for numbers in plain.all_borne(web, seen)]
            silent = {person: 0 for person in web.people}
            for messages in some_of(rng, borne, 3) + [moved(rng, web, seen, silent), silent]:
                told = []
                for coins in some_of(rng, plain.all_coins(web, seen), 300):
                    right = plain.messages_by(web, coins, seen[3]) == messages and seen[1].items() <= messages.items()
                    self.assertIs(bears(web, seen, messages, coins), right)
                    told.append(right)
                if len(told) < 300:
                    self.assertEqual(told.count(True), deals(web, seen, messages))


class Sums(unittest.TestCase):
    def test_sums_are_those_of_the_messages(self):
        rng = random.Random("sums")
        for web, coins, messages in helpers.random_talks("known", 300):
            band = rng.sample(web.people, rng.randrange(len(web.people) + 1))
            seen = view(web, band, coins, messages)
            found = answer(self, sums, web, seen)
            self.assertEqual(helpers.frozen(found), helpers.frozen(plain.sums(web, seen)))
            told = [(piece, sum(messages[person] for person in piece) % web.modulus)
                    for piece in plain.pieces(web.people, web.ties, band)]
            self.assertEqual(helpers.frozen(found), helpers.frozen(told))

    def test_bands_of_nobody_and_of_all(self):
        for web, coins, messages in helpers.random_talks("ends", 40):
            self.assertEqual(sums(web, view(web, web.people, coins, messages)), [])
            self.assertEqual(rows(web, view(web, web.people, coins, messages)), 1)
            self.assertEqual(deals(web, view(web, web.people, coins, messages), messages), 1)
            found = sums(web, view(web, [], coins, messages))
            self.assertEqual(sum(number for _, number in found) % web.modulus, sum(messages.values()) % web.modulus)

    def test_views_of_no_talk_that_was_held(self):
        web = Web(["a", "b", "c"], [("a", "b"), ("b", "c")], 10)
        seen = (["b"], {"b": 1}, {("a", "b"): 2, ("b", "c"): 5}, {"a": 0, "b": 4, "c": 9})
        self.assertEqual(sums(web, seen), [(["a"], 8), (["c"], 4)])
        self.assertEqual(rows(web, seen), 1)
        self.assertIs(may(web, seen, {"a": 8, "b": 1, "c": 4}), True)


class Possible(unittest.TestCase):
    def test_large_webs_by_the_facts(self):
        rng = random.Random("facts")
        told = []
        for web, coins, messages in helpers.random_talks("facts", 300):
            band = rng.sample(web.people, rng.choice([0, 0, 1, 1, 2, rng.randrange(len(web.people) + 1)]) % len(web.people))
            seen = view(web, band, coins, messages)
            found = plain.pieces(web.people, web.ties, band)
            outside = len(web.people) - len(band)
            closed = len(web.ties) - len(seen[2])
            self.assertEqual(rows(web, seen), web.modulus ** (outside - len(found)))
            for _ in range(4):
                other = moved(rng, web, seen, messages)
                right = plain.may(web, seen, other)
                told.append(right)
                self.assertIs(answer(self, may, web, seen, other), right)
                self.assertEqual(answer(self, deals, web, seen, other),
                                 web.modulus ** (closed - outside + len(found)) if right else 0)
                borne = answer(self, bearing, web, seen, other)
                self.assertEqual(borne is not None, right)
                if right:
                    self.assertIs(are_coins(web, borne), True)
                    self.assertEqual(view(web, band, borne, other), seen)
                    self.assertIs(answer(self, bears, web, seen, other, borne), True)
                else:
                    self.assertIs(bears(web, seen, other, coins), False)
                    self.assertIs(bears(web, seen, other, None), False)
        self.assertGreater(min(told.count(True), told.count(False)), 100)

    def test_the_true_messages_are_possible_and_true_coins_bear_them(self):
        rng = random.Random("true")
        for web, coins, messages in helpers.random_talks("true", 200):
            seen = view(web, rng.sample(web.people, rng.randrange(len(web.people) + 1)), coins, messages)
            self.assertIs(may(web, seen, messages), True)
            self.assertGreaterEqual(deals(web, seen, messages), 1)
            self.assertIs(bears(web, seen, messages, coins), True)
            for tie in coins:
                turned = {**coins, tie: (coins[tie] + 1) % web.modulus}
                self.assertIs(bears(web, seen, messages, turned), False)

    def test_the_own_messages_of_a_band_are_its_own(self):
        for web, seen in helpers.random_views("own", 200):
            messages = plain.messages_by(web, {**{tie: 0 for tie in web.ties}, **seen[2]}, seen[3])
            self.assertIs(may(web, seen, messages), True)
            for person in seen[0]:
                other = {**messages, person: (messages[person] + 1) % web.modulus}
                self.assertIs(may(web, seen, other), False)
                self.assertEqual(deals(web, seen, other), 0)
                self.assertIsNone(bearing(web, seen, other))
            for person in web.people:
                if person not in seen[0]:
                    other = {**messages, person: (messages[person] + 1) % web.modulus}
                    self.assertIs(may(web, seen, other), False)

    def test_a_tie_round_which_coins_turn(self):
        web = Web(["a", "b", "c"], helpers.all_ties(["a", "b", "c"]), 100)
        coins, messages = {("a", "b"): 99, ("a", "c"): 0, ("b", "c"): 50}, {"a": 1, "b": 0, "c": 99}
        seen = view(web, [], coins, messages)
        self.assertEqual(deals(web, seen, messages), 100)
        told = [bears(web, seen, messages, {("a", "b"): (99 + by) % 100, ("a", "c"): (-by) % 100, ("b", "c"): (50 + by) % 100})
                for by in range(100)]
        self.assertEqual(told, [True] * 100)
        self.assertIs(bears(web, seen, messages, {**coins, ("b", "c"): 51}), False)

    def test_which_objects_bear(self):
        web, coins, messages = helpers.example_web(), helpers.example_coins(), helpers.example_messages()
        for band in [[], ["cy"], ["ann", "dee"], web.people]:
            seen = view(web, band, coins, messages)
            self.assertIs(bears(web, seen, messages, coins), True)
            for thing in helpers.no_numbers(coins, 10) + [messages, seen, seen[2] if band != web.people else {}]:
                before = helpers.frozen(thing)
                self.assertIs(bears(web, seen, messages, thing), False, thing)
                self.assertEqual(helpers.frozen(thing), before)

    def test_coins_that_give_the_sayings_but_are_not_the_open_ones(self):
        web = Web(["a", "b", "c"], helpers.all_ties(["a", "b", "c"]), 5)
        coins, messages = {("a", "b"): 1, ("a", "c"): 2, ("b", "c"): 3}, {"a": 0, "b": 0, "c": 0}
        turned = {("a", "b"): 2, ("a", "c"): 1, ("b", "c"): 4}
        self.assertEqual(say(web, turned, messages), say(web, coins, messages))
        self.assertIs(bears(web, view(web, [], coins, messages), messages, turned), True)
        for band in [["a"], ["b"], ["c"], ["a", "b"]]:
            self.assertIs(bears(web, view(web, band, coins, messages), messages, turned), False)


class Wrong(unittest.TestCase):
    def test_wrong_arguments(self):
        web, coins, messages = helpers.example_web(), helpers.example_coins(), helpers.example_messages()
        seen = view(web, ["eve", "cy"], coins, messages)
        wrong = [("web", InvalidWeb, helpers.no_webs()), ("view", InvalidView, helpers.no_views(web, seen))]
        for call in [sums, rows]:
            helpers.check_errors(self, call, {"web": web, "view": seen}, wrong)
        wrong.append(("messages", InvalidMessages, helpers.no_numbers(messages, 10) + [coins]))
        for call in [may, deals, bearing]:
            helpers.check_errors(self, call, {"web": web, "view": seen, "messages": messages}, wrong)
        for thing in [coins, None]:
            right = {"web": web, "view": seen, "messages": messages, "thing": thing}
            helpers.check_errors(self, bears, right, wrong)

    def test_views_of_another_web(self):
        web, coins, messages = helpers.example_web(), helpers.example_coins(), helpers.example_messages()
        seen = view(web, ["cy"], coins, messages)
        others = [Web(web.people, web.ties, 9), Web(web.people, web.ties[2:], 10), Web(web.people + ["zoe"], web.ties, 10)]
        for other in others:
            for call in [sums, rows]:
                self.assertIs(helpers.raised(call, {"web": other, "view": seen}), InvalidView)

    def test_all_parameters_by_name(self):
        web = Web(["a", "b"], [("a", "b")], 5)
        seen, messages, coins = ([], {}, {}, {"a": 3, "b": 4}), {"a": 0, "b": 2}, {("a", "b"): 3}
        self.assertEqual(sums(view=seen, web=web), [(["a", "b"], 2)])
        self.assertEqual(rows(view=seen, web=web), 5)
        self.assertIs(may(messages=messages, view=seen, web=web), True)
        self.assertEqual(deals(messages=messages, view=seen, web=web), 1)
        self.assertEqual(bearing(messages=messages, view=seen, web=web), coins)
        self.assertIs(bears(thing=coins, messages=messages, view=seen, web=web), True)


if __name__ == "__main__":
    unittest.main()
