"""Talks: promises 4 and 9, and 2 as far as it is about them."""

import unittest

from hushweb.errors import InvalidCoins, InvalidMessages, InvalidSayings, InvalidWeb
from hushweb.talks import are_coins, are_numbers, heard, say
from hushweb.webs import Web
from tests import helpers, plain
from tests.helpers import no_numbers, random_talks


class Kinds(unittest.TestCase):
    def test_right_ones(self):
        for web, coins, messages in random_talks("right", 200):
            self.assertIs(are_coins(web, coins), True)
            self.assertIs(are_numbers(web, messages), True)
            self.assertIs(are_coins(web, messages), False)
            self.assertIs(are_numbers(web, coins), False)

    def test_spoilt_ones(self):
        for web, coins, messages in random_talks("spoilt", 32):
            for thing in no_numbers(coins, web.modulus):
                before = helpers.frozen(thing)
                self.assertIs(are_coins(web, thing), False, thing)
                self.assertEqual(helpers.frozen(thing), before)
            for thing in no_numbers(messages, web.modulus):
                self.assertIs(are_numbers(web, thing), False, thing)

    def test_numbers_from_nought_to_the_modulus_less_one(self):
        for modulus in [2, 3, 99, 100]:
            web = Web(["a", "b"], [("a", "b")], modulus)
            for number in range(-3, modulus + 3):
                right = 0 <= number < modulus
                self.assertIs(are_coins(web, {("a", "b"): number}), right)
                self.assertIs(are_numbers(web, {"a": 0, "b": number}), right)
                self.assertIs(are_numbers(web, {"b": 0, "a": number}), right)

    def test_bools_are_no_numbers(self):
        web = Web(["a", "b"], [("a", "b")], 2)
        for thing in [True, False]:
            self.assertIs(are_coins(web, {("a", "b"): thing}), False)
            self.assertIs(are_numbers(web, {"a": thing, "b": 0}), False)

    def test_without_ties(self):
        web = Web(["a", "b"], [], 2)
        self.assertIs(are_coins(web, {}), True)
        for thing in [[], (), "", None, 0, False, {("a", "b"): 0}, {"a": 0}, {"a": 0, "b": 0}, [{}]]:
            self.assertIs(are_coins(web, thing), False)
        self.assertIs(are_numbers(web, {}), False)

    def test_ties_with_the_greater_name_first_are_none(self):
        web = Web(["a", "b"], [("a", "b")], 5)
        self.assertIs(are_coins(web, {("b", "a"): 1}), False)
        self.assertIs(are_coins(web, {("a", "b"): 1, ("b", "a"): 1}), False)

    def test_wrong_webs(self):
        for call in [are_coins, are_numbers]:
            helpers.check_errors(self, call, {"web": helpers.example_web(), "thing": None},
                                 [("web", InvalidWeb, helpers.no_webs())])

    def test_right_for_one_web_and_not_for_another(self):
        self.assertIs(are_coins(Web(["a", "b", "c"], [("a", "b")], 5), {("a", "b"): 4}), True)
        self.assertIs(are_coins(Web(["a", "b", "c"], [("a", "b")], 4), {("a", "b"): 4}), False)
        self.assertIs(are_coins(Web(["a", "b", "c"], [("a", "c")], 5), {("a", "b"): 4}), False)
        self.assertIs(are_numbers(Web(["a", "b"], [], 5), {"a": 4, "b": 0}), True)
        self.assertIs(are_numbers(Web(["a", "c"], [], 5), {"a": 4, "b": 0}), False)


class Sayings(unittest.TestCase):
    def test_what_everybody_says_and_what_is_heard(self):
        for web, coins, messages in random_talks("sayings", 400):
            before = helpers.frozen([coins, messages])
            sayings = say(web, coins, messages)
            self.assertEqual(helpers.frozen([coins, messages]), before)
            self.assertEqual(sayings, plain.say(web, coins, messages))
            self.assertTrue(all(type(number) is int for number in sayings.values()))
            self.assertIs(are_numbers(web, sayings), True)
            total = heard(web, sayings)
            self.assertIs(type(total), int)
            self.assertEqual(total, sum(messages.values()) % web.modulus)
            self.assertEqual(heard(web, messages), total)

    def test_who_stands_first_adds_and_who_stands_second_takes_away(self):
        web = Web(["a", "b", "c"], [("a", "b"), ("b", "c")], 10)
        coins = {("a", "b"): 3, ("b", "c"): 9}
        self.assertEqual(say(web, coins, {"a": 0, "b": 0, "c": 0}), {"a": 3, "b": 6, "c": 1})
        self.assertEqual(say(web, coins, {"a": 8, "b": 5, "c": 9}), {"a": 1, "b": 1, "c": 0})

    def test_without_ties_each_says_the_message(self):
        web = Web(["a", "b"], [], 100)
        self.assertEqual(say(web, {}, {"a": 99, "b": 0}), {"a": 99, "b": 0})
        self.assertEqual(heard(web, {"a": 99, "b": 99}), 98)
        self.assertEqual(heard(Web(["a"], [], 2), {"a": 1}), 1)

    def test_wrong_arguments(self):
        web, coins, messages = helpers.example_web(), helpers.example_coins(), helpers.example_messages()
        no_coins, no_messages = no_numbers(coins, 10), no_numbers(messages, 10)
        right = {"web": web, "coins": coins, "messages": messages}
        wrong = [("web", InvalidWeb, helpers.no_webs()), ("coins", InvalidCoins, no_coins + [messages]),
                 ("messages", InvalidMessages, no_messages + [coins])]
        helpers.check_errors(self, say, right, wrong)
        wrong = [("web", InvalidWeb, helpers.no_webs()), ("sayings", InvalidSayings, no_messages + [coins])]
        helpers.check_errors(self, heard, {"web": web, "sayings": messages}, wrong)
        self.assertEqual(helpers.frozen([web, coins, messages]),
                         helpers.frozen([helpers.example_web(), helpers.example_coins(), helpers.example_messages()]))

    def test_returned_dicts_are_new(self):
        web, coins = Web(["a", "b"], [("a", "b")], 5), {("a", "b"): 0}
        messages = {"a": 1, "b": 2}
        first, second = say(web, coins, messages), say(web, coins, messages)
        self.assertEqual(first, messages)
        self.assertTrue(helpers.all_new(first, second, messages))
        first.clear()
        self.assertEqual((second, messages), ({"a": 1, "b": 2}, {"a": 1, "b": 2}))

    def test_all_parameters_by_name(self):
        web = Web(["a", "b"], [("a", "b")], 5)
        self.assertEqual(say(messages={"a": 0, "b": 1}, coins={("a", "b"): 3}, web=web), {"a": 3, "b": 3})
        self.assertEqual(heard(sayings={"a": 3, "b": 3}, web=web), 1)
        self.assertIs(are_coins(thing={("a", "b"): 3}, web=web), True)
        self.assertIs(are_numbers(thing={"a": 3, "b": 3}, web=web), True)


if __name__ == "__main__":
    unittest.main()
