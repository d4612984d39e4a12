"""Coins used again: promise 16, and 2 as far as it is about them."""

import itertools
import random
import unittest

from hushweb.again import changes, may_again, rows_again, speakers_again
from hushweb.errors import InvalidMessages, InvalidSeries, InvalidView, InvalidWeb
from hushweb.talks import say
from hushweb.views import view
from hushweb.webs import Web
from tests import helpers, plain
from tests.helpers import answer


def all_lists(web, seen, series):
    """All lists of messages that are possible, by all deals of coins: each list as the rows of its messages."""
    found = set()
    for coins in plain.all_coins(web, seen):
        talks = [plain.messages_by(web, coins, sayings) for sayings in [seen[3], *series]]
        if all(talks[0][person] == number for person, number in seen[1].items()):
            found.add(tuple(plain.row(web, messages) for messages in talks))
    return found


def told(web, lists):
    return [dict(zip(web.people, row)) for row in lists]


def plain_speakers(web, lists):
    """Who speaks in those of the lists that have at most one speaker in each talk, or None if there are none."""
    lone = [rows for rows in lists if all(len(web.people) - row.count(0) <= 1 for row in rows)]
    if not lone:
        return None
    return [[person for at, person in enumerate(web.people) if any(rows[talk][at] != 0 for rows in lone)]
            for talk in range(len(lone[0]))]


def lone_talk(rng, web, coins):
    """The sayings of a talk with these coins in which one person speaks, or nobody."""
    messages = {person: 0 for person in web.people}
    messages[rng.choice(web.people)] = rng.choice([0, 1, rng.randrange(web.modulus)])
    return say(web, coins, messages)


class AllDeals(unittest.TestCase):
    def test_small_webs_against_all_deals(self):
        rng = random.Random("series")
        for at, (web, seen) in enumerate(helpers.small_views("again")):
            coins = next(plain.all_coins(web, seen))
            series = [rng.choice([helpers.random_numbers(rng, web.people, web.modulus), seen[3],
                                  lone_talk(rng, web, coins)]) for _ in range(1 + at % 4)]
            lists = all_lists(web, seen, series)
            self.assertEqual(answer(self, rows_again, web, seen, series), len(lists))
            self.assertEqual(helpers.frozen(answer(self, speakers_again, web, seen, series)),
                             helpers.frozen(plain_speakers(web, lists)))
            for rows in rng.sample(sorted(lists), min(len(lists), 10)):
                self.assertIs(answer(self, may_again, web, seen, series, told(web, rows)), True)
                for talk, person in itertools.product(range(len(rows)), web.people):
                    turned = told(web, rows)
                    turned[talk][person] = (turned[talk][person] + 1) % web.modulus
                    right = tuple(plain.row(web, messages) for messages in turned) in lists
                    self.assertIs(may_again(web, seen, series, turned), right)
            for _ in range(5):
                some = [helpers.random_numbers(rng, web.people, web.modulus) for _ in range(len(series) + 1)]
                right = tuple(plain.row(web, messages) for messages in some) in lists
                self.assertIs(may_again(web, seen, series, some), right)

    def test_lone_speakers_of_small_webs(self):
        rng = random.Random("lone again")
        kinds = []
        for people, ties, modulus in [("ab", 1, 3), ("abc", 2, 5), ("abc", 3, 3), ("abcd", 4, 3), ("abcd", 5, 2), ("abc", 1, 2)]:
            for many in range(48):
                web = Web(list(people), rng.sample(helpers.all_ties(people), ties), modulus)
                coins = helpers.random_numbers(rng, web.ties, modulus)
                band = rng.sample(web.people, rng.choice([0, 0, 1, len(people)]))
                silent = {person: 0 for person in people}
                first = rng.choice([silent, {**silent, rng.choice(people): rng.randrange(modulus)}])
                seen = view(web, band, coins, first)
                series = [lone_talk(rng, web, coins) for _ in range(1 + many % 4)]
                right = plain_speakers(web, all_lists(web, seen, series))
                self.assertIsNotNone(right)
                self.assertEqual(speakers_again(web, seen, series), right)
                kinds += [min(len(speakers), 2) for speakers in right]
                series[0] = helpers.random_numbers(rng, web.people, modulus)
                right = plain_speakers(web, all_lists(web, seen, series))
                self.assertEqual(speakers_again(web, seen, series), right)
                kinds.append(None if right is None else 3)
        for kind in [0, 1, 2, 3, None]:
            self.assertGreater(kinds.count(kind), 8)


class Changes(unittest.TestCase):
    def test_talks_with_the_same_coins(self):
        rng = random.Random("changes")
        for at, (web, coins, messages) in enumerate(helpers.random_talks("changes", 200)):
            band = rng.sample(web.people, rng.randrange(len(web.people) + 1))
            seen = view(web, band, coins, messages)
            further = [helpers.random_numbers(rng, web.people, web.modulus) for _ in range(1 + at % 4)]
            series = [say(web, coins, each) for each in further]
            found = answer(self, changes, web, seen, series)
            right = [{person: (each[person] - messages[person]) % web.modulus for person in web.people} for each in further]
            self.assertEqual(found, right)
            self.assertTrue(all(type(number) is int for each in found for number in each.values()))
            self.assertIs(answer(self, may_again, web, seen, series, [messages, *further]), True)
            pieces = plain.pieces(web.people, web.ties, band)
            self.assertEqual(answer(self, rows_again, web, seen, series),
                             web.modulus ** (len(web.people) - len(band) - len(pieces)))
            for talk, person in itertools.product(range(len(further) + 1), web.people):
                turned = [dict(each) for each in [messages, *further]]
                turned[talk][person] = (turned[talk][person] + 1) % web.modulus
                self.assertIs(may_again(web, seen, series, turned), False)

    def test_any_sayings_are_those_of_some_talk_with_the_same_coins(self):
        web, coins, messages = helpers.example_web(), helpers.example_coins(), helpers.example_messages()
        seen = view(web, ["cy"], coins, messages)
        later = {person: 1 for person in web.people}
        self.assertEqual(changes(web, seen, [later]), [{"ann": 4, "bob": 8, "cy": 3, "dee": 6, "eve": 7}])
        self.assertEqual(rows_again(web, seen, [later]), 100)
        self.assertIsNone(speakers_again(web, seen, [later]))

    def test_lists_that_fit_at_each_talk_but_not_together(self):
        web, coins, messages = helpers.example_web(), helpers.example_coins(), helpers.example_messages()
        seen = view(web, [], coins, messages)
        series = [seen[3], seen[3]]
        other = {**messages, "ann": 3, "bob": 4}
        for lists in itertools.product([messages, other], repeat=3):
            self.assertIs(may_again(web, seen, series, list(lists)), lists[0] == lists[1] == lists[2])
        # The sums of the pieces are right at each talk, and those of the band, and all is moved alike.
        moved = {**messages, "dee": 9, "eve": 1}
        self.assertIs(may_again(web, seen, series, [moved, moved, moved]), True)
        self.assertIs(may_again(web, seen, series, [moved, moved, messages]), False)
        far = {**messages, "dee": 9}
        self.assertIs(may_again(web, seen, series, [far, far, far]), False)


class Speakers(unittest.TestCase):
    def talks(self, web, coins, speakers):
        silent = {person: 0 for person in web.people}
        return [say(web, coins, {**silent, **spoken}) for spoken in speakers]

    def test_named_ones(self):
        web, coins = helpers.example_web(), helpers.example_coins()
        cases = [
            ([], [{}, {}], [[], []]),
            ([], [{"ann": 3}, {"ann": 3}], [web.people, web.people]),
            ([], [{"ann": 3}, {"ann": 4}], [["ann"], ["ann"]]),
            ([], [{"ann": 3}, {"bob": 3}], [["ann"], ["bob"]]),
            ([], [{"ann": 3}, {}], [["ann"], []]),
            ([], [{}, {"ann": 3}], [[], ["ann"]]),
            (["cy"], [{"ann": 3}, {"ann": 3}], [["ann", "bob"], ["ann", "bob"]]),
            (["cy"], [{"cy": 3}, {"cy": 4}], [["cy"], ["cy"]]),
            (["cy"], [{"cy": 3}, {"dee": 4}], [["cy"], ["dee"]]),
            (["cy"], [{}, {"cy": 3}], [[], ["cy"]]),
            (web.people, [{"ann": 1}, {"bob": 1}, {}], [["ann"], ["bob"], []]),
            ([], [{"ann": 1}, {"ann": 1}, {"ann": 1}, {"ann": 1}, {"ann": 2}], [["ann"]] * 5),
            ([], [{"ann": 3}, {"ann": 3, "bob": 1}], [["bob"], ["bob"]]),
            ([], [{"ann": 3}, {"ann": 4, "bob": 1}], None),
            ([], [{"ann": 3, "bob": 1}, {"ann": 3, "bob": 1}], [web.people, web.people]),
            (["cy"], [{"ann": 3, "dee": 1}, {}], None),
            (["cy"], [{}, {"ann": 3, "dee": 1}], None),
        ]
        for band, spoken, right in cases:
            first, *series = self.talks(web, coins, spoken)
            messages = {**{person: 0 for person in web.people}, **spoken[0]}
            seen = view(web, band, coins, messages)
            self.assertEqual(seen[3], first)
            found = answer(self, speakers_again, web, seen, series)
            self.assertEqual(helpers.frozen(found), helpers.frozen(right), (band, spoken))

    def test_two_who_may_have_changed_places(self):
        web = Web(["a", "b", "c"], helpers.all_ties("abc"), 2)
        coins = {tie: 1 for tie in web.ties}
        first, later = self.talks(web, coins, [{"a": 1}, {"b": 1}])
        seen = view(web, [], coins, {"a": 1, "b": 0, "c": 0})
        self.assertEqual(seen[3], first)
        self.assertEqual(speakers_again(web, seen, [later]), [["a", "b"], ["a", "b"]])
        self.assertEqual(speakers_again(web, seen, [later, first]), [["a", "b"]] * 3)
        more = view(web, ["a"], coins, {"a": 1, "b": 0, "c": 0})
        self.assertEqual(speakers_again(web, more, [later]), [["a"], ["b"]])

    def test_large_webs(self):
        rng = random.Random("large")
        for web, coins, _ in helpers.random_talks("speakers", 120):
            spoken = [{rng.choice(web.people): rng.randrange(web.modulus)} for _ in range(rng.randrange(2, 6))]
            first, *series = self.talks(web, coins, spoken)
            band = rng.sample(web.people, rng.choice([0, 1, len(web.people)]))
            seen = view(web, band, coins, {**{person: 0 for person in web.people}, **spoken[0]})
            lone = [messages for messages in plain.lone_messages(web) if plain.may(web, seen, messages)]
            lists = []
            for messages in lone:
                borne = {person: (first[person] - messages[person]) % web.modulus for person in web.people}
                lists.append([tuple((said[person] - borne[person]) % web.modulus for person in web.people)
                              for said in [first, *series]])
            self.assertEqual(speakers_again(web, seen, series), plain_speakers(web, lists))


class Wrong(unittest.TestCase):
    def test_wrong_arguments(self):
        web, coins, messages = helpers.example_web(), helpers.example_coins(), helpers.example_messages()
        seen = view(web, ["eve", "cy"], coins, messages)
        sayings = seen[3]
        spoilt = helpers.no_numbers(sayings, 10)
        no_series = [thing for thing in helpers.junk() if thing != [sayings]] + [sayings, (sayings,), {"sayings": sayings}]
        no_series += [[], [sayings] * 5, [sayings] * 50, [[sayings]], [(sayings,)], [seen], [coins], [sayings, coins]]
        no_series += [[thing] for thing in spoilt] + [[sayings, thing, sayings] for thing in spoilt[::7]]
        wrong = [("web", InvalidWeb, helpers.no_webs()), ("view", InvalidView, helpers.no_views(web, seen)),
                 ("series", InvalidSeries, no_series)]
        right = {"web": web, "view": seen, "series": [sayings, sayings]}
        for call in [changes, rows_again, speakers_again]:
            helpers.check_errors(self, call, right, wrong)
        lists = [messages] * 3
        no_lists = helpers.junk() + [[], lists[:2], lists + lists[:1], tuple(lists), messages, [lists], lists[:2] + [coins]]
        no_lists += [{0: messages, 1: messages, 2: messages}, [messages, (messages,), messages]]
        no_lists += [[messages, thing, messages] for thing in spoilt] + [[messages] * 2 + [thing] for thing in spoilt[::7]]
        no_lists += [[thing] * 3 for thing in spoilt[::5]]
        wrong.append(("lists", InvalidMessages, no_lists))
        helpers.check_errors(self, may_again, {**right, "lists": lists}, wrong)
        self.assertIs(may_again(web, seen, [sayings, sayings], lists), True)

    def test_how_many_talks(self):
        web, coins, messages = helpers.example_web(), helpers.example_coins(), helpers.example_messages()
        seen = view(web, ["cy"], coins, messages)
        for many in range(7):
            series = [dict(seen[3]) for _ in range(many)]
            right = {"web": web, "view": seen, "series": series}
            for call in [changes, rows_again, speakers_again]:
                self.assertIs(helpers.raised(call, right), None if 1 <= many <= 4 else InvalidSeries)
            if 1 <= many <= 4:
                self.assertEqual(changes(web, seen, series), [{person: 0 for person in web.people}] * many)
                self.assertTrue(helpers.all_new(changes(web, seen, series), speakers_again(web, seen, series)))
                for length in range(7):
                    self.assertIs(helpers.raised(may_again, {**right, "lists": [messages] * length}),
                                  None if length == many + 1 else InvalidMessages)

    def test_all_parameters_by_name(self):
        web = Web(["a", "b"], [("a", "b")], 3)
        seen, series = ([], {}, {}, {"a": 2, "b": 2}), [{"a": 2, "b": 0}]
        self.assertEqual(changes(series=series, view=seen, web=web), [{"a": 0, "b": 1}])
        self.assertEqual(rows_again(series=series, view=seen, web=web), 3)
        self.assertEqual(speakers_again(series=series, view=seen, web=web), [["b"], ["b"]])
        self.assertIs(may_again(lists=[{"a": 0, "b": 1}, {"a": 0, "b": 2}], series=series, view=seen, web=web), True)


if __name__ == "__main__":
    unittest.main()
