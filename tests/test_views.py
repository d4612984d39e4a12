"""Views: promises 6 and 10, and 2 as far as it is about them."""

import itertools
import random
import unittest

from hushweb.errors import InvalidBand, InvalidCoins, InvalidMessages, InvalidView, InvalidWeb, Mismatch
from hushweb.talks import say
from hushweb.views import is_view, joined, view
from hushweb.webs import Web
from tests import helpers, plain
from tests.helpers import answer


class Views(unittest.TestCase):
    def test_what_a_band_sees(self):
        rng = random.Random("seen")
        for web, coins, messages in helpers.random_talks("views", 300):
            band = rng.sample(web.people, rng.randrange(len(web.people) + 1))
            seen = answer(self, view, web, band, coins, messages)
            self.assertIs(type(seen), tuple)
            self.assertEqual([type(part) for part in seen], [list, dict, dict, dict])
            self.assertEqual(seen, (band, {person: messages[person] for person in band},
                                    {tie: coins[tie] for tie in plain.open_ties(web, band)},
                                    plain.say(web, coins, messages)))
            self.assertIs(is_view(web, seen), True)

    def test_nobody_and_all(self):
        for web, coins, messages in helpers.random_talks("ends", 40):
            sayings = say(web, coins, messages)
            self.assertEqual(view(web, [], coins, messages), ([], {}, {}, sayings))
            for band in [web.people, web.people[::-1]]:
                self.assertEqual(view(web, band, coins, messages), (band, messages, coins, sayings))

    def test_the_order_of_a_band_stays(self):
        web, coins, messages = helpers.example_web(), helpers.example_coins(), helpers.example_messages()
        for band in itertools.permutations(["dee", "ann", "cy"]):
            seen = view(web, list(band), coins, messages)
            self.assertEqual(seen[0], list(band))
            self.assertEqual(seen[1:], view(web, ["ann", "cy", "dee"], coins, messages)[1:])

    def test_wrong_arguments(self):
        web, coins, messages = helpers.example_web(), helpers.example_coins(), helpers.example_messages()
        right = {"web": web, "band": ["eve", "cy"], "coins": coins, "messages": messages}
        wrong = [("web", InvalidWeb, helpers.no_webs()), ("band", InvalidBand, helpers.no_bands(web)),
                 ("coins", InvalidCoins, helpers.no_numbers(coins, 10) + [messages]),
                 ("messages", InvalidMessages, helpers.no_numbers(messages, 10) + [coins])]
        helpers.check_errors(self, view, right, wrong)

    def test_all_parameters_by_name(self):
        web = Web(["a", "b"], [("a", "b")], 5)
        seen = view(messages={"a": 1, "b": 0}, coins={("a", "b"): 3}, band=["b"], web=web)
        self.assertEqual(seen, (["b"], {"b": 0}, {("a", "b"): 3}, {"a": 4, "b": 2}))
        self.assertIs(is_view(thing=seen, web=web), True)
        self.assertEqual(joined(other=([], {}, {}, {"a": 4, "b": 2}), one=seen, web=web), seen)


class Judged(unittest.TestCase):
    def judge(self, web, thing):
        right = plain.is_view(web, thing)
        before = helpers.frozen(thing)
        self.assertIs(is_view(web, thing), right, thing)
        self.assertEqual(helpers.frozen(thing), before)
        return right

    def test_objects_of_all_kinds(self):
        web = helpers.example_web()
        self.assertFalse(any([self.judge(web, thing) for thing in helpers.junk()]))

    def test_near_ones(self):
        told = [self.judge(web, thing) for web, seen in helpers.random_views("near", 24)
                for thing in helpers.near_views(web, seen)]
        self.assertGreater(told.count(True), 200)
        self.assertGreater(told.count(False), 5000)

    def test_what_makes_a_view_none(self):
        web = helpers.example_web()
        seen = view(web, ["cy", "ann"], helpers.example_coins(), helpers.example_messages())
        band, own, coins, sayings = seen
        right = [seen, (["ann", "cy"], own, coins, sayings), (band, own, coins, {**sayings, "bob": 9})]
        turned = [(band, {**own, "cy": 1}, coins, sayings), (band, own, {**coins, ("ann", "cy"): 5}, sayings),
                  (band, own, {**coins, ("ann", "bob"): 4}, sayings), (band, own, coins, {**sayings, "cy": 9})]
        fewer = {tie: coins[tie] for tie in coins if tie != ("ann", "cy")}
        keys = [(band, {**own, "bob": 0}, coins, sayings), (band, {"cy": 0}, coins, sayings),
                (band, own, {**coins, ("dee", "eve"): 6}, sayings), (band, own, fewer, sayings),
                (band, own, coins, {**sayings, "zoe": 0}), (["cy"], own, coins, sayings),
                (["cy", "ann", "bob"], own, coins, sayings), (["cy", "bob"], own, coins, sayings)]
        kinds = [list(seen), (tuple(band), own, coins, sayings), (band, list(own.items()), coins, sayings)]
        bools = [(band, {**own, "cy": False}, coins, sayings), (["cy", "ann", "ann"], own, coins, sayings)]
        for thing in right:
            self.assertIs(is_view(web, thing), True)
        for thing in turned + keys + kinds + bools:
            self.assertIs(is_view(web, thing), False, thing)

    def test_all_of_two_people_and_two_numbers(self):
        web = Web(["a", "b"], [("a", "b")], 2)
        for own, coin, one, other in itertools.product(range(-1, 3), repeat=4):
            numbers = min(own, coin, one, other) >= 0 and max(own, coin, one, other) <= 1
            seen = (["b"], {"b": own}, {("a", "b"): coin}, {"a": one, "b": other})
            self.assertIs(is_view(web, seen), numbers and (own - coin - other) % 2 == 0)
            seen = (["a"], {"a": own}, {("a", "b"): coin}, {"a": one, "b": other})
            self.assertIs(is_view(web, seen), numbers and (own + coin - one) % 2 == 0)

    def test_wrong_webs(self):
        seen = view(helpers.example_web(), ["cy"], helpers.example_coins(), helpers.example_messages())
        for thing in [seen, None]:
            helpers.check_errors(self, is_view, {"web": helpers.example_web(), "thing": thing},
                                 [("web", InvalidWeb, helpers.no_webs())])


class Joined(unittest.TestCase):
    def test_views_of_one_talk(self):
        rng = random.Random("together")
        common = 0
        for web, coins, messages in helpers.random_talks("joined", 300):
            one, other = [rng.sample(web.people, rng.randrange(len(web.people) + 1)) for _ in range(2)]
            common += any(person in other for person in one)
            both = one + [person for person in other if person not in one]
            found = answer(self, joined, web, view(web, one, coins, messages), view(web, other, coins, messages))
            self.assertEqual(helpers.frozen(found[0]), helpers.frozen(both))
            self.assertEqual([type(part) for part in found], [list, dict, dict, dict])
            self.assertEqual(found, view(web, both, coins, messages))
            self.assertIs(is_view(web, found), True)
        self.assertGreater(common, 50)
        self.assertLess(common, 250)

    def test_a_view_with_itself(self):
        for web, seen in helpers.random_views("itself", 40):
            self.assertEqual(joined(web, seen, seen), seen)
            found = joined(web, seen, seen)
            self.assertTrue(helpers.all_new(found, list(seen)))

    def test_the_order_of_the_keys_means_nothing(self):
        web, coins, messages = helpers.example_web(), helpers.example_coins(), helpers.example_messages()
        one, other = [view(web, band, coins, messages) for band in [["cy", "ann"], ["eve", "ann", "dee"]]]
        turned = [(each[0], *[dict(reversed(part.items())) for part in each[1:]]) for each in [one, other]]
        for first, second in itertools.product([one, turned[0]], [other, turned[1]]):
            self.assertEqual(joined(web, first, second), view(web, ["cy", "ann", "eve", "dee"], coins, messages))
            self.assertEqual(joined(web, second, first), view(web, ["eve", "ann", "dee", "cy"], coins, messages))

    def test_unlike_sayings(self):
        web, coins, messages = helpers.example_web(), helpers.example_coins(), helpers.example_messages()
        one = view(web, ["cy"], coins, messages)
        for person in ["ann", "bob", "dee", "eve"]:
            other = view(web, ["cy"], coins, {**messages, person: 5})
            self.assertEqual(one[:3], other[:3])
            self.assert_mismatch(web, one, other)
            self.assert_mismatch(web, one, view(web, [], coins, {**messages, person: 5}))

    def test_unlike_coins(self):
        web = Web(["a", "b", "c"], [("a", "b"), ("b", "c")], 7)
        sayings = {"a": 1, "b": 2, "c": 3}
        one = (["a"], {"a": 0}, {("a", "b"): 1}, sayings)
        self.assert_mismatch(web, one, (["b"], {"b": 0}, {("a", "b"): 2, ("b", "c"): 4}, sayings))
        self.assert_mismatch(web, one, (["a"], {"a": 1}, {("a", "b"): 0}, sayings))
        found = joined(web, one, (["b"], {"b": 0}, {("a", "b"): 1, ("b", "c"): 3}, sayings))
        self.assertEqual(found, (["a", "b"], {"a": 0, "b": 0}, {("a", "b"): 1, ("b", "c"): 3}, sayings))
        # Bands that have no person and no tie in common may have any numbers.
        other = (["c"], {"c": 6}, {("b", "c"): 3}, sayings)
        self.assertEqual(joined(web, other, one), (["c", "a"], {"a": 0, "c": 6}, {("a", "b"): 1, ("b", "c"): 3}, sayings))

    def test_unlike_numbers_of_a_person(self):
        web = Web(["a", "b"], [("a", "b")], 3)
        views = [(["a"], {"a": own}, {("a", "b"): coin}, {"a": said, "b": 0})
                 for own, coin, said in itertools.product(range(3), repeat=3) if (own + coin - said) % 3 == 0]
        self.assertEqual(len(views), 9)
        for one, other in itertools.product(views, repeat=2):
            if one == other:
                self.assertEqual(joined(web, one, other), one)
            else:
                self.assert_mismatch(web, one, other)
        alone = Web(["a"], [], 3)
        self.assert_mismatch(alone, (["a"], {"a": 1}, {}, {"a": 1}), (["a"], {"a": 2}, {}, {"a": 2}))

    def test_views_of_talks_turned_a_little(self):
        rng = random.Random("turned")
        told = []
        for web, coins, messages in helpers.random_talks("unlike", 300):
            more = dict(coins)
            if coins and rng.random() < 0.7:
                tie = rng.choice(sorted(coins))
                more[tie] = (coins[tie] + 1) % web.modulus
            further = plain.messages_by(web, more, say(web, coins, messages))
            one = view(web, rng.sample(web.people, rng.randrange(len(web.people) + 1)), coins, messages)
            other = view(web, rng.sample(web.people, rng.randrange(len(web.people) + 1)), more, further)
            self.assertEqual(one[3], other[3])
            right = all(one[part].get(key, number) == number for part in (1, 2) for key, number in other[part].items())
            told.append(right)
            if right:
                self.assertIs(is_view(web, joined(web, one, other)), True)
                self.assertEqual(joined(web, one, other)[2], {**one[2], **other[2]})
            else:
                self.assert_mismatch(web, one, other)
        self.assertGreater(min(told.count(True), told.count(False)), 50)

    def assert_mismatch(self, web, one, other):
        before = helpers.frozen([one, other])
        self.assertIs(helpers.raised(joined, {"web": web, "one": one, "other": other}), Mismatch)
        self.assertIs(helpers.raised(joined, {"web": web, "one": other, "other": one}), Mismatch)
        self.assertEqual(helpers.frozen([one, other]), before)

    def test_wrong_arguments(self):
        web, coins, messages = helpers.example_web(), helpers.example_coins(), helpers.example_messages()
        one, other = view(web, ["cy"], coins, messages), view(web, ["eve", "ann"], coins, messages)
        unlike = [view(web, ["cy"], coins, {**messages, "cy": 1}), view(web, [], coins, {**messages, "ann": 1})]
        wrong = [("web", InvalidWeb, helpers.no_webs()), ("one", InvalidView, helpers.no_views(web, one))]
        helpers.check_errors(self, joined, {"web": web, "one": one, "other": other},
                             wrong + [("other", InvalidView, helpers.no_views(web, other))])
        helpers.check_errors(self, joined, {"web": web, "one": one, "other": other},
                             wrong + [("other", Mismatch, unlike)])


if __name__ == "__main__":
    unittest.main()
