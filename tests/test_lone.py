"""Lone speakers: promise 12, and 2 as far as it is about them."""

import itertools
import random
import unittest

from hushweb.errors import InBand, InvalidBand, InvalidView, InvalidWeb, UnknownPerson
from hushweb.lone import lone, parts
from hushweb.views import view
from hushweb.webs import Web
from tests import helpers, plain
from tests.helpers import answer


def plain_lone(web, seen, possible):
    """What the document tells of a lone speaker, all messages of at most one who speaks gone through."""
    found = [messages for messages in plain.lone_messages(web) if possible(messages)]
    if not found:
        return None
    if any(set(messages.values()) == {0} for messages in found):
        return (0, [])
    told = [(number, person) for messages in found for person, number in messages.items() if number != 0]
    assert len({number for number, _ in told}) == 1
    return (told[0][0], sorted(person for _, person in told))


class Lone(unittest.TestCase):
    def test_small_webs_against_all_deals(self):
        for web, seen in helpers.small_views("alone"):
            borne = plain.all_borne(web, seen)
            right = plain_lone(web, seen, lambda messages: plain.row(web, messages) in borne)
            self.assertEqual(helpers.frozen(answer(self, lone, web, seen)), helpers.frozen(right))

    def test_talks_of_none_of_one_and_of_several(self):
        rng = random.Random("speakers")
        told = []
        for at, (web, coins, _) in enumerate(helpers.random_talks("lone", 400)):
            messages = {person: 0 for person in web.people}
            for person in rng.sample(web.people, min(len(web.people), rng.choice([0, 1, 1, 2, 3]))):
                messages[person] = rng.randrange(web.modulus)
            band = rng.sample(web.people, rng.randrange(len(web.people) + 1))
            seen = view(web, band, coins, messages)
            right = plain_lone(web, seen, lambda messages: plain.may(web, seen, messages))
            self.assertEqual(helpers.frozen(answer(self, lone, web, seen)), helpers.frozen(right))
            told.append("none" if right is None else min(len(right[1]), 2))
        for kind in ["none", 0, 1, 2]:
            self.assertGreater(told.count(kind), 20)

    def test_a_message_that_all_outside_may_have_said(self):
        web = Web(["a", "b", "c", "d"], helpers.all_ties(["a", "b", "c", "d"]), 100)
        coins = {tie: 7 * at for at, tie in enumerate(web.ties)}
        for person in web.people:
            messages = {other: 99 if other == person else 0 for other in web.people}
            for band in helpers.bands(web.people):
                right = [person] if person in band else [other for other in web.people if other not in band]
                self.assertEqual(lone(web, view(web, band, coins, messages)), (99, right))

    def test_people_of_the_band(self):
        web = Web(["a", "b", "c"], [("a", "b"), ("b", "c")], 10)
        coins = {("a", "b"): 3, ("b", "c"): 4}
        for band in [["a"], ["a", "c"], ["c", "a", "b"]]:
            self.assertEqual(lone(web, view(web, band, coins, {"a": 6, "b": 0, "c": 0})), (6, ["a"]))
            self.assertEqual(lone(web, view(web, band, coins, {"a": 0, "b": 0, "c": 0})), (0, []))
            self.assertIsNone(lone(web, view(web, band, coins, {"a": 6, "b": 4, "c": 0})))
        self.assertIsNone(lone(web, view(web, ["a"], coins, {"a": 6, "b": 4, "c": 0})))
        self.assertEqual(lone(web, view(web, ["a"], coins, {"a": 6, "b": 4, "c": 6})), (6, ["a"]))
        self.assertEqual(lone(web, view(web, ["b"], coins, {"a": 6, "b": 0, "c": 0})), (6, ["a"]))
        self.assertIsNone(lone(web, view(web, ["b"], coins, {"a": 6, "b": 0, "c": 4})))
        self.assertIsNone(lone(web, view(web, ["b"], coins, {"a": 6, "b": 4, "c": 0})))

    def test_messages_that_sum_to_nought(self):
        web = Web(["a", "b"], [("a", "b")], 2)
        self.assertEqual(lone(web, view(web, [], {("a", "b"): 1}, {"a": 1, "b": 1})), (0, []))
        self.assertIsNone(lone(Web(["a", "b"], [], 2), ([], {}, {}, {"a": 1, "b": 1})))
        self.assertEqual(lone(Web(["a", "b"], [], 2), ([], {}, {}, {"a": 1, "b": 0})), (1, ["a"]))

    def test_wrong_arguments(self):
        web, coins, messages = helpers.example_web(), helpers.example_coins(), helpers.example_messages()
        seen = view(web, ["ann", "cy"], coins, messages)
        wrong = [("web", InvalidWeb, helpers.no_webs()), ("view", InvalidView, helpers.no_views(web, seen))]
        helpers.check_errors(self, lone, {"web": web, "view": seen}, wrong)
        self.assertEqual(lone(view=seen, web=web), (7, ["bob"]))


class Parts(unittest.TestCase):
    def test_random_webs(self):
        rng = random.Random("parts")
        told = []
        for people, ties, modulus in helpers.random_webs("parted", 200):
            web = Web(people, ties, modulus)
            band = rng.sample(people, rng.randrange(len(people)))
            outside = [person for person in people if person not in band]
            for one, other in itertools.product(outside, repeat=2):
                right = plain.parts(web, band, one, other)
                told.append(right)
                self.assertIs(answer(self, parts, web, band, one, other), right)
        self.assertGreater(min(told.count(True), told.count(False)), 300)

    def test_edges(self):
        web = helpers.example_web()
        self.assertIs(parts(web, ["cy"], "ann", "bob"), False)
        self.assertIs(parts(web, ["cy"], "dee", "ann"), True)
        self.assertIs(parts(web, [], "ann", "eve"), False)
        self.assertIs(parts(web, ["cy"], "ann", "ann"), False)
        self.assertIs(parts(web, ["dee", "bob", "cy"], "ann", "eve"), True)
        self.assertIs(parts(Web(["a", "b"], [], 2), [], "b", "a"), True)
        self.assertIs(parts(Web(["a", "b"], [], 2), [], "b", "b"), False)
        self.assertIs(parts(Web(["a", "b"], [("a", "b")], 2), [], "a", "b"), False)

    def test_wrong_arguments(self):
        web = helpers.example_web()
        right = {"web": web, "band": ["cy", "bob"], "one": "ann", "other": "eve"}
        strangers = helpers.no_persons(web) + ["zoe", "an", "annb", ["ann"], ("ann",), {"ann": 1}, web]
        wrong = [("web", InvalidWeb, helpers.no_webs()), ("band", InvalidBand, helpers.no_bands(web))]
        for one, other in [("one", "other"), ("other", "one")]:
            helpers.check_errors(self, parts, right, wrong + [(one, UnknownPerson, strangers), (other, InBand, ["cy", "bob"])])
        helpers.check_errors(self, parts, right, wrong + [("one", UnknownPerson, strangers), ("other", UnknownPerson, strangers)])
        helpers.check_errors(self, parts, right, wrong + [("one", InBand, ["cy", "bob"]), ("other", InBand, ["cy", "bob"])])

    def test_all_parameters_by_name(self):
        self.assertIs(parts(other="eve", one="ann", band=["cy"], web=helpers.example_web()), True)


if __name__ == "__main__":
    unittest.main()
