"""Strength: promises 7 and 14, and 2 as far as it is about them."""

import itertools
import random
import unittest

from hushweb.errors import InvalidModulus, InvalidNumber, InvalidPeople, InvalidWeb
from hushweb.strength import fewest_ties, strength, strong_web, weakest
from hushweb.webs import Web
from tests import helpers, plain
from tests.helpers import answer


def no_integers(least, most):
    more = [least - 1, most + 1, str(least), [least], (least,), {least: least}, [], least - 100, most + 100]
    return [thing for thing in helpers.junk() + more if not (type(thing) is int and least <= thing <= most)]


class Least(unittest.TestCase):
    def check(self, web):
        right = plain.strength(web)
        self.assertEqual(answer(self, strength, web), right, web.ties)
        found = answer(self, weakest, web)
        if right is None:
            self.assertIsNone(found)
            return
        self.assertIs(type(found), tuple)
        band, one, other = found
        self.assertIs(type(band), list)
        self.assertEqual((len(band), len(set(band))), (right, right))
        self.assertFalse({one, other} & set(band))
        self.assertTrue(plain.parts(web, band, one, other))

    def test_all_webs_of_up_to_four_people(self):
        for many in range(1, 5):
            people = ["a", "b", "c", "d"][:many]
            ties = helpers.all_ties(people)
            for size in range(len(ties) + 1):
                for some in itertools.combinations(ties, size):
                    self.check(Web(people, list(some), 2))

    def test_webs_of_five_to_eight_people(self):
        rng = random.Random("strength")
        for at in range(120):
            people = rng.sample(helpers.NAMES, 5 + at % 4)
            ties = helpers.all_ties(people)
            self.check(Web(people, rng.sample(ties, rng.randrange(len(people) - 1, len(ties) + 1)), 3))

    def test_edges(self):
        self.assertEqual([strength(Web(["a"], [], 2)), weakest(Web(["a"], [], 2))], [None, None])
        self.assertEqual([strength(Web(["a", "b"], [("a", "b")], 2)), strength(Web(["b", "a"], [], 2))], [None, 0])
        self.assertIn(weakest(Web(["a", "b"], [], 2)), [([], "a", "b"), ([], "b", "a")])
        for many in range(2, 9):
            people = list("abcdefgh")[:many]
            ties = helpers.all_ties(people)
            self.assertIsNone(strength(Web(people, ties, 2)))
            self.assertIsNone(weakest(Web(people, ties, 2)))
            self.assertEqual(strength(Web(people, [], 2)), 0)
            self.assertEqual(strength(Web(people, ties[1:], 2)), many - 2)

    def test_wrong_webs(self):
        for call in [strength, weakest]:
            helpers.check_errors(self, call, {"web": helpers.example_web()}, [("web", InvalidWeb, helpers.no_webs())])


class Strong(unittest.TestCase):
    def test_all_numbers_of_people_and_all_sizes(self):
        rng = random.Random("strong")
        for many, size in itertools.product(range(1, 9), range(7)):
            least = answer(self, fewest_ties, many, size)
            self.assertIs(type(least), int)
            people, modulus = rng.sample(helpers.NAMES, many), rng.choice([2, 10, 100])
            web = answer(self, strong_web, people, size, modulus)
            self.assertIsInstance(web, Web)
            self.assertEqual((web.people, web.modulus, len(web.ties)), (sorted(people), modulus, least))
            found = plain.strength(web)
            self.assertTrue(found is None or found > size, (many, size, found))
            # No fewer would do, by the fact that may be relied on; and a web that hangs together is no smaller.
            each = min(size + 1, many - 1)
            self.assertEqual(least, max((many * each + 1) // 2, many - 1))

    def test_no_web_of_fewer_ties_would_do(self):
        for many, size in itertools.product(range(1, 6), range(7)):
            people = list("abcde")[:many]
            least = fewest_ties(many, size)
            if least > 0:
                for ties in itertools.combinations(helpers.all_ties(people), least - 1):
                    found = plain.strength(Web(people, list(ties), 2))
                    self.assertTrue(found is not None and found <= size)

    def test_few_people_are_all_tied(self):
        for many in range(1, 9):
            for size in range(max(0, many - 2), 7):
                self.assertEqual(fewest_ties(many, size), many * (many - 1) // 2)
        self.assertEqual([fewest_ties(many, 0) for many in range(1, 9)], list(range(8)))

    def test_the_web_does_not_share_the_people(self):
        people = ["c", "a", "b"]
        web = strong_web(people, 1, 5)
        people.append("d")
        people[0] = "x"
        self.assertEqual(web, Web(["a", "b", "c"], helpers.all_ties(["a", "b", "c"]), 5))

    def test_wrong_arguments(self):
        wrong = [("many", InvalidNumber, no_integers(1, 8)), ("size", InvalidNumber, no_integers(0, 6))]
        helpers.check_errors(self, fewest_ties, {"many": 1, "size": 0}, wrong)
        helpers.check_errors(self, fewest_ties, {"many": 8, "size": 6}, wrong)
        people = helpers.junk() + [["ann", "Bob"], list("abcdefghi"), ("ann", "bob"), ["ann", "bob", "ann"], [["ann"]]]
        no_people = [thing for thing in people if thing not in (["ann"], ["zoe"], ["ann", "zoe"]) or type(thing) is not list]
        wrong = [("people", InvalidPeople, no_people), ("size", InvalidNumber, no_integers(0, 6)),
                 ("modulus", InvalidModulus, no_integers(2, 100))]
        helpers.check_errors(self, strong_web, {"people": ["ann", "bob"], "size": 1, "modulus": 2}, wrong)

    def test_all_parameters_by_name(self):
        self.assertEqual(fewest_ties(size=2, many=6), 9)
        self.assertEqual(strong_web(modulus=3, size=0, people=["b", "a"]), Web(["a", "b"], [("a", "b")], 3))
        self.assertEqual(strength(web=helpers.example_web()), 1)
        self.assertEqual(len(weakest(web=helpers.example_web())), 3)


if __name__ == "__main__":
    unittest.main()
