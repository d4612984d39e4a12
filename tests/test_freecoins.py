"""Free coins: promise 23, and 2 as far as it is about them."""

import itertools
import random
import unittest

from hushweb.errors import InvalidBand, InvalidMessages, InvalidNumbers, InvalidView, InvalidWeb
from hushweb.freecoins import bearing_with, free_ties, is_free
from hushweb.known import deals
from hushweb.talks import are_coins
from hushweb.views import view
from hushweb.webs import Web
from tests import helpers, plain
from tests.helpers import answer


def closed_ties(web, band):
    return [tie for tie in web.ties if not set(tie) & set(band)]


def plain_is_free(web, band, thing):
    """Whether an object is a free list, by the words of the document."""
    closed = closed_ties(web, band)
    if type(thing) is not list or any(type(tie) is not tuple or tie not in closed for tie in thing):
        return False
    if any(not one < other for one, other in zip(thing, thing[1:])):
        return False
    right = plain.pieces(web.people, web.ties, band)
    left = [tie for tie in web.ties if tie not in thing]
    if plain.pieces(web.people, left, band) != right:
        return False
    return all(plain.pieces(web.people, [tie for tie in left if tie != more], band) != right
               for more in closed if more not in thing)


def all_free(web, band):
    """All free lists, by all choices of the closed ties."""
    closed = closed_ties(web, band)
    return [list(ties) for size in range(len(closed) + 1) for ties in itertools.combinations(closed, size)
            if plain_is_free(web, band, list(ties))]


def exponent(web, band):
    """The exponent of the number of coins that bear possible messages."""
    outside = [person for person in web.people if person not in band]
    return len(closed_ties(web, band)) - len(outside) + len(plain.pieces(web.people, web.ties, band))


def random_bands(seed, many):
    rng = random.Random(seed)
    for people, ties, modulus in helpers.random_webs(seed, many):
        web = Web(people, ties, modulus)
        yield web, rng.sample(web.people, rng.choice([0, 0, 1, 2, len(people)]) % (len(people) + 1))


class Free(unittest.TestCase):
    def test_small_webs_against_all_lists(self):
        rng = random.Random("free")
        lengths = []
        for many, size in [(1, 0), (2, 0), (2, 1), (3, 2), (3, 3), (4, 3), (4, 4), (4, 5), (4, 6), (5, 7), (5, 8)]:
            people = rng.sample(helpers.NAMES, many)
            web = Web(people, rng.sample(helpers.all_ties(people), size), 3)
            for band in helpers.bands(web.people):
                free = all_free(web, band)
                self.assertEqual({len(ties) for ties in free}, {exponent(web, band)})
                lengths.append(len(free[0]))
                self.assertIn(answer(self, free_ties, web, band[::-1]), free)
                closed = closed_ties(web, band)
                for size_of in range(len(closed) + 1):
                    for ties in itertools.combinations(closed, size_of):
                        self.assertIs(is_free(web, band, list(ties)), list(ties) in free)
        self.assertGreater(len(set(lengths)), 3)

    def test_webs_of_all_kinds(self):
        for web, band in random_bands("kinds", 300):
            found = answer(self, free_ties, web, band)
            self.assertIs(type(found), list)
            self.assertIs(plain_is_free(web, band, found), True)
            self.assertEqual(len(found), exponent(web, band))
            self.assertIs(answer(self, is_free, web, band, found), True)

    def test_nobody_some_and_all(self):
        people = list("abcde")
        ring = Web(people, [("a", "b"), ("b", "c"), ("c", "d"), ("d", "e"), ("a", "e")], 5)
        full = Web(people, helpers.all_ties(people), 5)
        bare = Web(people, [], 5)
        self.assertEqual([len(free_ties(web, [])) for web in (ring, full, bare)], [1, 6, 0])
        self.assertEqual([free_ties(web, ["a"]) for web in (ring, bare)], [[], []])
        self.assertEqual(len(free_ties(full, ["c"])), 3)
        for web in (ring, full, bare):
            self.assertEqual(free_ties(web, people), [])
            self.assertIs(is_free(web, people, []), True)
        self.assertEqual([is_free(ring, [], [tie]) for tie in ring.ties], [True] * 5)
        self.assertEqual([is_free(ring, [], list(two)) for two in itertools.combinations(ring.ties, 2)], [False] * 10)
        self.assertIs(is_free(ring, [], []), False)

    def test_lists_that_are_none(self):
        web = Web(list("abcd"), helpers.all_ties("abcd"), 5)
        free = free_ties(web, [])
        self.assertEqual(len(free), 3)
        wrong = [free[::-1], free[1:] + free[:1], free[:2], free[:2] + free[1:2], free + free[-1:], tuple(free), free[:2] + [("c", "b")],
                 free[:2] + [["c", "d"]], free[:2] + ["cd"], free[:2] + [("c", "z")], free + [None], [free], {tie: 1 for tie in free},
                 free[:2] + [("d", "d")], free[:2] + [True], [None], str(free)]
        for thing in wrong:
            self.assertIs(is_free(web, [], thing), False, thing)
        for tie in web.ties:
            if tie not in free:
                self.assertIs(is_free(web, [], sorted(free + [tie])), False)
        # Without all ties at one person a piece falls apart, though there are as many of them as there have to be.
        self.assertIs(is_free(web, [], [("a", "b"), ("a", "c"), ("a", "d")]), False)
        self.assertIs(is_free(web, ["d"], [("a", "d")]), False)
        self.assertIs(is_free(web, ["d"], [("a", "b")]), True)

    def test_objects_of_all_kinds(self):
        for web, band in random_bands("objects", 24):
            free = free_ties(web, band)
            near = [free + [tie] for tie in web.ties] + [[tie] + free for tie in web.ties] + [free[:at] + free[at + 1:] for at in
                                                                                              range(len(free))]
            near += [free[:at] + [tie] + free[at + 1:] for at in range(len(free)) for tie in web.ties + [None, [], ("ann",), {}]]
            for thing in helpers.junk() + near + [web.ties, web.people, [tuple(tie) for tie in web.ties]]:
                before = helpers.frozen(thing)
                self.assertIs(is_free(web, band, thing), plain_is_free(web, band, thing), thing)
                self.assertEqual(helpers.frozen(thing), before)


class BearingWith(unittest.TestCase):
    def test_small_webs_against_all_coins(self):
        rng = random.Random("with")
        tried = 0
        for web, seen in helpers.small_views("with"):
            band = seen[0]
            borne = {}
            for coins in plain.all_coins(web, seen):
                messages = plain.messages_by(web, coins, seen[3])
                if seen[1].items() <= messages.items():
                    borne.setdefault(plain.row(web, messages), []).append(coins)
            free = all_free(web, band)
            for row in rng.sample(sorted(borne), min(3, len(borne))):
                messages = dict(zip(web.people, row))
                for ties in rng.sample(free, min(3, len(free))):
                    for numbers in list(itertools.product(range(web.modulus), repeat=len(ties)))[:30]:
                        chosen = dict(zip(ties, numbers))
                        right = [coins for coins in borne[row] if chosen.items() <= coins.items()]
                        self.assertEqual(len(right), 1)
                        self.assertEqual(bearing_with(web, seen, messages, chosen), right[0])
                        tried += 1
            chosen = {tie: 0 for tie in free[0]}
            for _ in range(6):
                messages = helpers.random_numbers(rng, web.people, web.modulus)
                self.assertEqual(bearing_with(web, seen, messages, chosen) is None, plain.row(web, messages) not in borne)
        self.assertGreater(tried, 500)

    def test_large_webs(self):
        rng = random.Random("large")
        told = []
        for web, coins, messages in helpers.random_talks("large free", 150):
            band = rng.sample(web.people, rng.choice([0, 0, 1, 2]) % len(web.people))
            seen = view(web, band, coins, messages)
            free = free_ties(web, band)
            self.assertEqual(bearing_with(web, seen, messages, {tie: coins[tie] for tie in free}), coins)
            self.assertEqual(deals(web, seen, messages), web.modulus ** len(free))
            chosen = helpers.random_numbers(rng, free, web.modulus)
            other = dict(messages)
            outside = [person for person in web.people if person not in band]
            one, further = rng.choice(outside), rng.choice(outside)
            by = rng.randrange(web.modulus)
            other[one] = (other[one] + by) % web.modulus
            other[further] = (other[further] - by) % web.modulus
            for wanted in [messages, other]:
                found = answer(self, bearing_with, web, seen, wanted, chosen)
                told.append(found is not None)
                self.assertEqual(found is not None, plain.may(web, seen, wanted))
                if found is not None:
                    self.assertIs(are_coins(web, found), True)
                    self.assertEqual(plain.say(web, found, wanted), seen[3])
                    self.assertLessEqual(seen[2].items() | chosen.items(), found.items())
        self.assertGreater(min(told.count(True), told.count(False)), 20)

    def test_wrong_arguments(self):
        web, coins, messages = helpers.example_web(), helpers.example_coins(), helpers.example_messages()
        seen = view(web, ["eve"], coins, messages)
        wrong = [("web", InvalidWeb, helpers.no_webs()), ("view", InvalidView, helpers.no_views(web, seen)),
                 ("messages", InvalidMessages, helpers.no_numbers(messages, 10) + [coins])]
        free = [("ann", "bob"), ("ann", "cy"), ("bob", "cy")]
        no_numbers = [thing for thing in helpers.junk() + helpers.spoilt_dicts({("ann", "cy"): 3}, 10)
                      if not any(plain.gives_numbers(thing, [tie], 10) for tie in free)]
        no_numbers += [{}, coins, {("cy", "dee"): 1}, {("dee", "eve"): 1}, {("ann", "cy"): 1, ("ann", "bob"): 2}, {("cy", "ann"): 3},
                       {tie: 1 for tie in free}, [("ann", "cy")], {("ann", "cy"): 10}, {("ann", "cy"): True}]
        for chosen in [{tie: 3} for tie in free]:
            right = {"web": web, "view": seen, "messages": messages, "chosen": chosen}
            helpers.check_errors(self, bearing_with, right, wrong + [("chosen", InvalidNumbers, no_numbers)])
        # Messages that are not possible are no error, but do not hide one.
        silent = {person: 0 for person in web.people}
        self.assertIsNone(bearing_with(web, seen, silent, {("ann", "bob"): 3}))
        self.assertIs(helpers.raised(bearing_with, {"web": web, "view": seen, "messages": silent, "chosen": {}}), InvalidNumbers)

    def test_wrong_webs_and_bands(self):
        web = helpers.example_web()
        wrong = [("web", InvalidWeb, helpers.no_webs()), ("band", InvalidBand, helpers.no_bands(web))]
        helpers.check_errors(self, free_ties, {"web": web, "band": ["cy"]}, wrong)
        for thing in [[], None, [("ann", "cy")]]:
            helpers.check_errors(self, is_free, {"web": web, "band": ["cy"], "thing": thing}, wrong)

    def test_all_parameters_by_name(self):
        web = Web(["a", "b", "c"], helpers.all_ties("abc"), 5)
        seen, messages = ([], {}, {}, {"a": 0, "b": 0, "c": 0}), {"a": 0, "b": 0, "c": 0}
        self.assertEqual(len(free_ties(band=[], web=web)), 1)
        self.assertIs(is_free(thing=[("a", "c")], band=[], web=web), True)
        found = bearing_with(chosen={("a", "c"): 2}, messages=messages, view=seen, web=web)
        self.assertEqual(found, {("a", "b"): 3, ("a", "c"): 2, ("b", "c"): 3})


if __name__ == "__main__":
    unittest.main()
