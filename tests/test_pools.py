"""Pools: promise 24, and 2 as far as it is about them."""

import itertools
import random
import unittest

from hushweb.errors import InvalidCoins, InvalidView, InvalidWeb, Mismatch
from hushweb.known import sums
from hushweb.pools import opened, pooled
from hushweb.views import joined, view
from hushweb.webs import Web
from tests import helpers, plain
from tests.helpers import answer


def plain_pooled(web, one, other, messages):
    """The sums of the joined view, by the messages, without the pieces that are made up of whole ones."""
    band = one[0] + [person for person in other[0] if person not in one[0]]
    out = []
    for piece in plain.pieces(web.people, web.ties, band):
        alone = True
        for each in (one, other):
            whole = [found for found in plain.pieces(web.people, web.ties, each[0]) if set(found) <= set(piece)]
            if sorted(sum(whole, [])) == piece:
                alone = False
        if alone:
            out.append((piece, sum(messages[person] for person in piece) % web.modulus))
    return out


class Pooled(unittest.TestCase):
    def test_views_of_one_talk(self):
        rng = random.Random("pooled")
        lengths = []
        for web, coins, messages in helpers.random_talks("pooled", 400):
            one, other = [rng.sample(web.people, rng.randrange(min(4, len(web.people)) + 1)) for _ in range(2)]
            views = [view(web, band, coins, messages) for band in (one, other)]
            found = answer(self, pooled, web, *views)
            self.assertEqual(helpers.frozen(found), helpers.frozen(plain_pooled(web, *views, messages)))
            self.assertEqual(pooled(web, *views[::-1]), found)
            known = sums(web, joined(web, *views))
            self.assertEqual(found, [each for each in known if each in found])
            lengths.append(len(found))
        self.assertGreater(sum(length > 0 for length in lengths), 30)

    def test_views_in_trees_and_rings(self):
        rng = random.Random("trees and rings")
        lengths = []
        for _ in range(200):
            people = rng.sample("abcdefgh", 8)
            ties = [tuple(sorted([people[at], people[rng.randrange(max(0, at - 2), at)]])) for at in range(1, 8)]
            ties += rng.sample([tie for tie in helpers.all_ties(people) if tie not in ties], rng.choice([0, 1, 2]))
            web = Web(people, ties, 10)
            coins, messages = helpers.random_numbers(rng, ties, 10), helpers.random_numbers(rng, people, 10)
            views = [view(web, rng.sample(people, rng.randrange(1, 4)), coins, messages) for _ in range(2)]
            found = answer(self, pooled, web, *views)
            self.assertEqual(helpers.frozen(found), helpers.frozen(plain_pooled(web, *views, messages)))
            lengths.append(len(found))
        self.assertGreater(lengths.count(1), 30)
        self.assertGreater(sum(length > 1 for length in lengths), 10)

    def test_all_bands_of_small_webs(self):
        rng = random.Random("small pools")
        for many, size in [(1, 0), (2, 1), (3, 2), (3, 3), (4, 3), (4, 4), (4, 5), (4, 6)]:
            people = list("abcd")[:many]
            web = Web(people, rng.sample(helpers.all_ties(people), size), 7)
            coins, messages = helpers.random_numbers(rng, web.ties, 7), helpers.random_numbers(rng, people, 7)
            views = [view(web, band, coins, messages) for band in helpers.bands(people)]
            for one, other in itertools.product(views, repeat=2):
                self.assertEqual(pooled(web, one, other), plain_pooled(web, one, other, messages))
                if set(one[0]) <= set(other[0]):
                    self.assertEqual(pooled(web, one, other), [])

    def test_one_within_the_other_and_the_same(self):
        web, coins, messages = helpers.example_web(), helpers.example_coins(), helpers.example_messages()
        for band in helpers.bands(web.people):
            seen = view(web, band, coins, messages)
            self.assertEqual(pooled(web, seen, seen), [])
            for other in helpers.bands(band):
                self.assertEqual(pooled(web, seen, view(web, other, coins, messages)), [])

    def test_a_row_of_people(self):
        people = list("abcdefg")
        web = Web(people, list(zip(people, people[1:])), 100)
        coins, messages = {tie: 7 for tie in web.ties}, {person: at for at, person in enumerate(people)}
        seen = {person: view(web, [person], coins, messages) for person in people}
        self.assertEqual(pooled(web, seen["c"], seen["e"]), [(["d"], 3)])
        self.assertEqual(pooled(web, seen["b"], seen["f"]), [(["c", "d", "e"], 9)])
        self.assertEqual(pooled(web, seen["a"], seen["g"]), [(["b", "c", "d", "e", "f"], 15)])
        self.assertEqual(pooled(web, seen["a"], seen["b"]), [])
        self.assertEqual(pooled(web, view(web, ["b", "f"], coins, messages), seen["d"]), [(["c"], 2), (["e"], 4)])

    def test_views_that_do_not_go_together(self):
        web, coins, messages = helpers.example_web(), helpers.example_coins(), helpers.example_messages()
        one, other = view(web, ["cy"], coins, messages), view(web, ["bob", "cy"], coins, messages)
        self.assertIsNone(helpers.raised(pooled, {"web": web, "one": one, "other": other}))
        more = view(web, ["bob", "cy"], coins, {**messages, "eve": 1})
        coin = (["bob", "cy"], other[1], {**other[2], ("cy", "dee"): 2}, other[3])
        turned = view(web, ["cy"], {**coins, ("bob", "cy"): 8}, {**messages, "bob": 8, "cy": 9})
        self.assertEqual(turned[3], one[3])
        own = view(web, ["cy"], {**coins, ("ann", "cy"): 3, ("cy", "dee"): 0}, {**messages, "ann": 1, "dee": 9})
        self.assertEqual((own[3], own[1]), (one[3], one[1]))
        for unlike in [more, turned, own]:
            self.assertIs(helpers.raised(pooled, {"web": web, "one": one, "other": unlike}), Mismatch)
            self.assertIs(helpers.raised(pooled, {"web": web, "one": unlike, "other": one}), Mismatch)
        self.assertIs(helpers.raised(pooled, {"web": web, "one": one, "other": coin}), InvalidView)
        alone = Web(["a"], [], 3)
        self.assertIs(helpers.raised(pooled, {"web": alone, "one": (["a"], {"a": 1}, {}, {"a": 1}),
                                              "other": (["a"], {"a": 2}, {}, {"a": 2})}), Mismatch)

    def test_wrong_arguments(self):
        web, coins, messages = helpers.example_web(), helpers.example_coins(), helpers.example_messages()
        one, other = view(web, ["cy"], coins, messages), view(web, ["eve", "ann"], coins, messages)
        unlike = [view(web, ["cy"], coins, {**messages, "cy": 1}), view(web, [], coins, {**messages, "ann": 1})]
        wrong = [("web", InvalidWeb, helpers.no_webs()), ("one", InvalidView, helpers.no_views(web, one))]
        for last in [("other", InvalidView, helpers.no_views(web, other)), ("other", Mismatch, unlike)]:
            helpers.check_errors(self, pooled, {"web": web, "one": one, "other": other}, wrong + [last])

    def test_all_parameters_by_name(self):
        web = Web(["a", "b", "c"], [("a", "b"), ("b", "c")], 5)
        coins, messages = {("a", "b"): 3, ("b", "c"): 4}, {"a": 1, "b": 2, "c": 0}
        one, other = view(web, ["a"], coins, messages), view(web, ["c"], coins, messages)
        self.assertEqual(pooled(other=other, one=one, web=web), [(["b"], 2)])
        self.assertEqual(opened(shown={("a", "b"): 3}, view=other, web=web), [(["a"], 1), (["b"], 2)])


class Opened(unittest.TestCase):
    def test_coins_as_they_are(self):
        rng = random.Random("opened")
        kinds = []
        for web, coins, messages in helpers.random_talks("shown", 400):
            band = rng.sample(web.people, rng.choice([0, 0, 1, 2, len(web.people)]) % (len(web.people) + 1))
            seen = view(web, band, coins, messages)
            shown = rng.sample(web.ties, rng.choice([0, 1, 2, len(web.ties), rng.randrange(len(web.ties) + 1)]) % (len(web.ties) + 1))
            left = [tie for tie in web.ties if tie not in shown]
            right = [(piece, sum(messages[person] for person in piece) % web.modulus)
                     for piece in plain.pieces(web.people, left, band)]
            found = answer(self, opened, web, seen, {tie: coins[tie] for tie in shown})
            self.assertEqual(helpers.frozen(found), helpers.frozen(right))
            kinds.append((len(right) > len(sums(web, seen)), any(tie in seen[2] for tie in shown)))
        for kind in itertools.product([True, False], repeat=2):
            self.assertGreater(kinds.count(kind), 20)

    def test_nothing_shown_and_all_shown(self):
        for web, seen in helpers.random_views("ends", 60):
            self.assertEqual(opened(web, seen, {}), sums(web, seen))
            self.assertEqual(opened(web, seen, seen[2]), sums(web, seen))
            coins = {**{tie: 1 for tie in web.ties}, **seen[2]}
            messages = plain.messages_by(web, coins, seen[3])
            self.assertEqual(opened(web, seen, coins), [([person], messages[person]) for person in web.people if person not in seen[0]])

    def test_against_all_coins(self):
        rng = random.Random("all shown")
        for web, seen in helpers.small_views("shown"):
            closed = [tie for tie in web.ties if tie not in seen[2]]
            shown = helpers.random_numbers(rng, rng.sample(closed, rng.randrange(len(closed) + 1)), web.modulus)
            known = opened(web, seen, shown)
            rows = set()
            for coins in plain.all_coins(web, seen):
                if shown.items() <= coins.items():
                    messages = plain.messages_by(web, coins, seen[3])
                    rows.add(plain.row(web, messages))
                    for piece, number in known:
                        self.assertEqual(sum(messages[person] for person in piece) % web.modulus, number)
            outside = len(web.people) - len(seen[0])
            self.assertEqual(len(rows), web.modulus ** (outside - len(known)))

    def test_open_ties_with_the_number_of_the_view_and_with_another(self):
        web, coins, messages = helpers.example_web(), helpers.example_coins(), helpers.example_messages()
        seen = view(web, ["cy"], coins, messages)
        for tie, number in itertools.product(web.ties, range(10)):
            right = {"web": web, "view": seen, "shown": {("ann", "bob"): 3, tie: number}}
            wrong = "cy" in tie and number != coins[tie]
            self.assertIs(helpers.raised(opened, right), InvalidCoins if wrong else None)
        self.assertEqual(opened(web, seen, {("ann", "bob"): 3}), [(["ann"], 0), (["bob"], 7), (["dee", "eve"], 0)])
        self.assertEqual(opened(web, seen, {("ann", "bob"): 4}), [(["ann"], 9), (["bob"], 8), (["dee", "eve"], 0)])
        self.assertEqual(opened(web, seen, {("ann", "bob"): 4, ("ann", "cy"): 4}), [(["ann"], 9), (["bob"], 8), (["dee", "eve"], 0)])

    def test_a_shown_tie_within_a_piece_tells_nothing(self):
        web = Web(["a", "b", "c"], helpers.all_ties("abc"), 5)
        seen = view(web, [], {tie: 2 for tie in web.ties}, {"a": 1, "b": 3, "c": 3})
        for tie, number in itertools.product(web.ties, range(5)):
            self.assertEqual(opened(web, seen, {tie: number}), [(["a", "b", "c"], 2)])
        self.assertEqual(opened(web, seen, {("a", "b"): 2, ("a", "c"): 2}), [(["a"], 1), (["b", "c"], 1)])

    def test_wrong_arguments(self):
        web, coins, messages = helpers.example_web(), helpers.example_coins(), helpers.example_messages()
        seen = view(web, ["cy"], coins, messages)

        def right(thing):
            return (type(thing) is dict and all(type(tie) is tuple and tie in web.ties and type(thing[tie]) is int
                                                and thing[tie] in range(10) for tie in thing)
                    and all(thing[tie] == coins[tie] for tie in thing if "cy" in tie))

        things = helpers.junk() + helpers.spoilt_dicts(coins, 10) + helpers.spoilt_dicts({("ann", "bob"): 3}, 10)
        things += [{("ann", "cy"): 5}, {("cy", "dee"): 0, ("ann", "bob"): 3}, {("cy", "ann"): 4}, {("ann", "dee"): 0}, messages]
        no_coins = [thing for thing in things if not right(thing)]
        wrong = [("web", InvalidWeb, helpers.no_webs()), ("view", InvalidView, helpers.no_views(web, seen)),
                 ("shown", InvalidCoins, no_coins)]
        helpers.check_errors(self, opened, {"web": web, "view": seen, "shown": {("ann", "bob"): 3}}, wrong)
        for thing in things:
            if right(thing):
                self.assertIsNone(helpers.raised(opened, {"web": web, "view": seen, "shown": thing}))


if __name__ == "__main__":
    unittest.main()
