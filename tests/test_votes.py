"""Votes: promise 15, and 2 as far as it is about them."""

import itertools
import random
import unittest

from hushweb.errors import InvalidView, InvalidWeb, NoVotes, SmallModulus
from hushweb.views import is_view, view
from hushweb.votes import sure, vote_rows, yeses
from hushweb.webs import Web
from tests import helpers, plain
from tests.helpers import answer

CALLS = [yeses, vote_rows, sure]


def all_votes(web, seen):
    """All votes that are possible in a view."""
    votes = [dict(zip(web.people, row)) for row in itertools.product([0, 1], repeat=len(web.people))]
    return [each for each in votes if plain.may(web, seen, each)]


class Votes(unittest.TestCase):
    def check(self, web, seen):
        votes = all_votes(web, seen)
        if not votes:
            for call in CALLS:
                self.assertIs(helpers.raised(call, {"web": web, "view": seen}), NoVotes)
            return "none"
        counts = [[(piece, sum(each[person] for person in piece)) for piece in plain.pieces(web.people, web.ties, seen[0])]
                  for each in votes]
        self.assertTrue(all(row == counts[0] for row in counts))
        self.assertEqual(helpers.frozen(answer(self, yeses, web, seen)), helpers.frozen(counts[0]))
        self.assertEqual(answer(self, vote_rows, web, seen), len(votes))
        told = [(person, votes[0][person]) for person in web.people if len({each[person] for each in votes}) == 1]
        self.assertEqual(helpers.frozen(answer(self, sure, web, seen)), helpers.frozen(told))
        return "nobody" if not told else "all" if len(told) == len(web.people) else "some"

    def test_against_all_votes(self):
        rng = random.Random("votes")
        found = []
        for people, ties, _ in helpers.random_webs("votes", 400):
            if len(people) <= 6:
                web = Web(people, ties, rng.choice([len(people) + 1, len(people) + 1, 7, 10, 100]))
                coins = helpers.random_numbers(rng, ties, web.modulus)
                chance = rng.choice([0, 0.1, 0.5, 0.9, 1])
                messages = {person: int(rng.random() < chance) for person in people}
                band = rng.sample(people, rng.randrange(len(people) + 1))
                seen = view(web, band, coins, messages)
                self.assertTrue(plain.may(web, seen, messages))
                found.append(self.check(web, seen))
                turned = {**messages, rng.choice(people): rng.randrange(web.modulus)}
                found.append(self.check(web, view(web, band, coins, turned)))
        for kind in ["none", "nobody", "some", "all"]:
            self.assertGreater(found.count(kind), 5)

    def test_small_webs_against_all_deals(self):
        for web, seen in helpers.small_views("votes"):
            if web.modulus > len(web.people):
                borne = plain.all_borne(web, seen)
                votes = [row for row in borne if set(row) <= {0, 1}]
                self.assertEqual(helpers.raised(vote_rows, {"web": web, "view": seen}), None if votes else NoVotes)
                if votes:
                    self.assertEqual(vote_rows(web, seen), len(votes))
                self.check(web, seen)

    def test_the_modulus_and_the_number_of_people(self):
        for many in range(2, 9):
            people = list("abcdefgh")[:many]
            messages = {person: 1 for person in people}
            for modulus in range(2, 12):
                web = Web(people, helpers.all_ties(people), modulus)
                seen = view(web, [], {tie: 0 for tie in web.ties}, messages)
                for call in CALLS:
                    self.assertIs(helpers.raised(call, {"web": web, "view": seen}),
                                  SmallModulus if modulus <= many else None)
                if modulus > many:
                    self.assertEqual(yeses(web, seen), [(people, many)])
                    self.assertEqual(vote_rows(web, seen), 1)
                    self.assertEqual(sure(web, seen), [(person, 1) for person in people])

    def test_votes_that_the_own_numbers_of_a_band_rule_out(self):
        web = Web(["a", "b", "c"], [("a", "b"), ("b", "c")], 5)
        coins = {("a", "b"): 3, ("b", "c"): 4}
        for own, first, last in itertools.product(range(5), range(5), range(5)):
            seen = view(web, ["b"], coins, {"a": first, "b": own, "c": last})
            right = max(own, first, last) <= 1
            for call in CALLS:
                self.assertIs(helpers.raised(call, {"web": web, "view": seen}), None if right else NoVotes)
        seen = view(web, ["c", "b", "a"], coins, {"a": 0, "b": 1, "c": 0})
        self.assertEqual([yeses(web, seen), vote_rows(web, seen)], [[], 1])
        self.assertEqual(sure(web, seen), [("a", 0), ("b", 1), ("c", 0)])
        for spoilt in ["a", "b", "c"]:
            seen = view(web, ["c", "b", "a"], coins, {**{"a": 0, "b": 1, "c": 0}, spoilt: 2})
            self.assertIs(helpers.raised(yeses, {"web": web, "view": seen}), NoVotes)

    def test_sums_that_votes_can_not_have(self):
        web = Web(["a", "b", "c"], [("a", "b"), ("b", "c")], 5)
        coins = {("a", "b"): 3, ("b", "c"): 4}
        for total in range(5):
            seen = view(web, [], coins, {"a": total, "b": 0, "c": 0})
            if total <= 3:
                self.assertEqual(vote_rows(web, seen), [1, 3, 3, 1][total])
                self.assertEqual(sure(web, seen), [(person, total // 3) for person in "abc"] if total in (0, 3) else [])
            else:
                self.assertIs(helpers.raised(vote_rows, {"web": web, "view": seen}), NoVotes)

    def test_wrong_arguments(self):
        web, coins = helpers.example_web(), helpers.example_coins()
        seen = view(web, ["dee", "cy"], coins, {"ann": 1, "bob": 0, "cy": 1, "dee": 0, "eve": 1})
        small = Web(web.people, web.ties, 5)
        none_possible = [view(web, ["dee", "cy"], coins, {"ann": 1, "bob": 0, "cy": 2, "dee": 0, "eve": 1}),
                         view(web, [], coins, {"ann": 9, "bob": 0, "cy": 0, "dee": 0, "eve": 0})]
        self.assertTrue(all(is_view(web, each) for each in none_possible))
        no_views = helpers.no_views(web, seen)
        for call in CALLS:
            helpers.check_errors(self, call, {"web": web, "view": seen},
                                 [("web", InvalidWeb, helpers.no_webs()), ("view", InvalidView, no_views)])
            helpers.check_errors(self, call, {"web": web, "view": seen},
                                 [("web", InvalidWeb, helpers.no_webs()), ("view", NoVotes, none_possible)])
            for thing in no_views + none_possible + [seen]:
                self.assertIs(helpers.raised(call, {"web": small, "view": thing}), SmallModulus)

    def test_all_parameters_by_name(self):
        web = Web(["a", "b"], [("a", "b")], 3)
        seen = ([], {}, {}, {"a": 2, "b": 2})
        self.assertEqual(yeses(view=seen, web=web), [(["a", "b"], 1)])
        self.assertEqual(vote_rows(view=seen, web=web), 2)
        self.assertEqual(sure(view=seen, web=web), [])


if __name__ == "__main__":
    unittest.main()
