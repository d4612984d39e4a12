"""Opened talks: promise 18, and 2 as far as it is about them."""

import itertools
import random
import unittest

from hushweb.errors import InvalidOpening, InvalidSayings, InvalidWeb
from hushweb.openings import are_liars, fewest_liars, in_fewest, is_opening, torn, unfit
from hushweb.talks import say
from hushweb.webs import Web
from tests import helpers, plain
from tests.helpers import answer


def honest(web, coins):
    """The opening in which everybody tells the coins as they are."""
    return {person: {tie: coins[tie] for tie in web.ties if person in tie} for person in web.people}


def turned(rng, web, opening, many):
    """An opening with so many claims changed."""
    out = {person: dict(opening[person]) for person in opening}
    claims = [(person, tie) for person in sorted(opening) for tie in sorted(opening[person])]
    for person, tie in rng.sample(claims, min(many, len(claims))):
        out[person][tie] = (out[person][tie] + rng.randrange(1, web.modulus)) % web.modulus
    return out


def random_opened(seed, many):
    """Webs with openings and sayings: honest ones, with one claim changed, with many; sayings that fit or not."""
    rng = random.Random(seed)
    for at, (web, coins, messages) in enumerate(helpers.random_talks(seed, many)):
        opening = turned(rng, web, honest(web, coins), [0, 1, 2, 4, 40][at % 5])
        spoken = [{person: 0 for person in web.people}, messages,
                  {person: rng.choice([0, 0, 0, 1]) for person in web.people}][at % 3]
        sayings = say(web, coins, spoken)
        if at % 4 == 0:
            # Sayings that fit the own claims, however these were changed.
            sayings = {person: plain_saying(web, opening, person) for person in web.people}
        yield web, opening, sayings


def plain_saying(web, opening, person):
    """What a person has to say by the own claims if the message is 0."""
    total = 0
    for (one, other), number in opening[person].items():
        total += number if one == person else -number if other == person else 1000
    return total % web.modulus


def plain_torn(web, opening):
    return [(one, other) for one, other in web.ties if opening[one][(one, other)] != opening[other][(one, other)]]


def plain_unfit(web, opening, sayings):
    return [person for person in web.people if sayings[person] != plain_saying(web, opening, person)]


def all_liars(web, opening, sayings):
    """All sets of people that are liars, one by one, as ascending lists."""
    ties, people = plain_torn(web, opening), plain_unfit(web, opening, sayings)
    return [band for band in helpers.bands(web.people)
            if set(people) <= set(band) and all(set(tie) & set(band) for tie in ties)]


def plain_is_opening(web, thing):
    if type(thing) is not dict or sorted(thing, key=repr) != sorted(web.people, key=repr):
        return False
    return all(plain.gives_numbers(thing[person], [tie for tie in web.ties if person in tie], web.modulus)
               for person in web.people)


def near_openings(web, opening):
    """Objects that are nearly an opening, some of which are one."""
    out = [list(opening.items()), tuple(opening.items()), [opening], (opening,), list(opening), str(opening)]
    for stranger in ["zoe", "", 0, True, None, (), ("ann", "bob"), ("ann",), "Ann"]:
        out.append({**opening, stranger: {}})
        for person in opening:
            out.append({(stranger if old == person else old): opening[old] for old in opening})
    for person in opening:
        out.append({old: opening[old] for old in opening if old != person})
        out += [{**opening, person: thing} for thing in helpers.junk()]
        out += [{**opening, person: thing} for thing in helpers.spoilt_dicts(opening[person], web.modulus)]
        out.append({**opening, person: dict(reversed(opening[person].items()))})
        for other in web.people:
            out.append({**opening, person: opening[other]})
        for tie in web.ties:
            # A tie too many, or one turned round beside the right one.
            out += [{**opening, person: {**opening[person], tie: 0}},
                    {**opening, person: {**opening[person], tie[::-1]: 0}}]
        for tie in opening[person]:
            for number in [0, web.modulus - 1, web.modulus, -1, False]:
                out.append({**opening, person: {**opening[person], tie: number}})
    return out


def no_openings(web, opening):
    return [thing for thing in helpers.junk() + near_openings(web, opening) if not plain_is_opening(web, thing)]


class Openings(unittest.TestCase):
    def test_honest_people_tear_no_tie(self):
        for web, coins, _ in helpers.random_talks("honest", 60):
            opening = honest(web, coins)
            sayings = say(web, coins, {person: 0 for person in web.people})
            self.assertIs(is_opening(web, opening), True)
            self.assertEqual(torn(web, opening), [])
            self.assertEqual(unfit(web, opening, sayings), [])
            self.assertEqual(fewest_liars(web, opening, sayings), [])
            self.assertEqual(in_fewest(web, opening, sayings), [])
            self.assertIs(are_liars(web, opening, sayings, []), True)

    def test_who_speaks_is_unfit(self):
        for web, coins, _ in helpers.random_talks("speaks", 60):
            opening = honest(web, coins)
            for person in web.people:
                sayings = say(web, coins, {other: int(other == person) for other in web.people})
                self.assertEqual(unfit(web, opening, sayings), [person])
                self.assertEqual(fewest_liars(web, opening, sayings), [person])
                self.assertIs(are_liars(web, opening, sayings, []), False)

    def test_one_claim_changed(self):
        web, coins = helpers.example_web(), helpers.example_coins()
        silent = say(web, coins, {person: 0 for person in web.people})
        for tie in web.ties:
            for at in (0, 1):
                opening = honest(web, coins)
                opening[tie[at]][tie] = (opening[tie[at]][tie] + 1) % 10
                self.assertEqual(torn(web, opening), [tie])
                self.assertEqual(unfit(web, opening, silent), [tie[at]])
                self.assertEqual(fewest_liars(web, opening, silent), [tie[at]])
                fitting = {**silent, tie[at]: plain_saying(web, opening, tie[at])}
                self.assertEqual(unfit(web, opening, fitting), [])
                self.assertIn(fewest_liars(web, opening, fitting), [[tie[0]], [tie[1]]])
                self.assertEqual(in_fewest(web, opening, fitting), [])

    def test_against_all_sets_of_people(self):
        sizes, sure = [], []
        for web, opening, sayings in random_opened("opened", 400):
            self.assertEqual(helpers.frozen(answer(self, torn, web, opening)), helpers.frozen(plain_torn(web, opening)))
            self.assertEqual(helpers.frozen(answer(self, unfit, web, opening, sayings)),
                             helpers.frozen(plain_unfit(web, opening, sayings)))
            liars = all_liars(web, opening, sayings)
            size = min(map(len, liars))
            found = answer(self, fewest_liars, web, opening, sayings)
            self.assertIn(found, liars)
            self.assertEqual((len(found), type(found)), (size, list))
            fewest = [band for band in liars if len(band) == size]
            right = [person for person in web.people if all(person in band for band in fewest)]
            self.assertEqual(answer(self, in_fewest, web, opening, sayings), right)
            sizes.append(size)
            sure.append(len(right))
        self.assertGreaterEqual(len(set(sizes)), 7)
        self.assertGreater(sum(one < size for one, size in zip(sure, sizes)), 25)
        self.assertGreater(sum(0 < one for one in sure), 50)

    def test_which_sets_are_liars(self):
        told = []
        for web, opening, sayings in random_opened("which", 60):
            liars = all_liars(web, opening, sayings)
            for band in helpers.bands(web.people):
                right = band in liars
                told.append(right)
                self.assertIs(are_liars(web, opening, sayings, band), right)
                if right and len(band) > 1:
                    wrong = [band[::-1], band[1:] + band[:1], band + band[-1:], band[:1] + band, tuple(band),
                             {person: True for person in band}, [band], "".join(band)]
                    for thing in wrong:
                        self.assertIs(are_liars(web, opening, sayings, thing), False)
        self.assertGreater(min(told.count(True), told.count(False)), 100)

    def test_strangers_and_twice(self):
        web, coins = helpers.example_web(), helpers.example_coins()
        opening, sayings = honest(web, coins), say(web, coins, {person: 0 for person in web.people})
        for thing in helpers.no_bands(web):
            before = helpers.frozen(thing)
            self.assertIs(are_liars(web, opening, sayings, thing), False, thing)
            self.assertEqual(helpers.frozen(thing), before)
        for band in helpers.bands(web.people):
            self.assertIs(are_liars(web, opening, sayings, band), True)
            for thing in [band + ["zoe"], ["aaa"] + band, [None] + band, band + [True], band + [["eve"]]]:
                self.assertIs(are_liars(web, opening, sayings, thing), False)
        self.assertIs(are_liars(web, opening, sayings, ["bob", "ann"]), False)
        self.assertIs(are_liars(web, opening, sayings, ["ann", "ann"]), False)

    def test_a_ring_of_torn_ties(self):
        people = list("abcde")
        web = Web(people, [("a", "b"), ("b", "c"), ("c", "d"), ("d", "e"), ("a", "e")], 2)
        opening = {person: {tie: int(person == tie[0]) for tie in web.ties if person in tie} for person in people}
        fitting = {person: plain_saying(web, opening, person) for person in people}
        self.assertEqual(torn(web, opening), web.ties)
        self.assertEqual(len(fewest_liars(web, opening, fitting)), 3)
        self.assertEqual(in_fewest(web, opening, fitting), [])
        star = Web(people, [("a", "b"), ("a", "c"), ("a", "d"), ("a", "e")], 2)
        opening = {person: {tie: int(person == "a") for tie in star.ties if person in tie} for person in people}
        fitting = {person: plain_saying(star, opening, person) for person in people}
        self.assertEqual(in_fewest(star, opening, fitting), ["a"])
        self.assertEqual(fewest_liars(star, opening, fitting), ["a"])
        self.assertEqual(in_fewest(star, opening, {**fitting, "c": 1 - fitting["c"]}), ["a", "c"])


class Judged(unittest.TestCase):
    def judge(self, web, thing):
        right = plain_is_opening(web, thing)
        before = helpers.frozen(thing)
        self.assertIs(is_opening(web, thing), right, thing)
        self.assertEqual(helpers.frozen(thing), before)
        return right

    def test_objects_of_all_kinds(self):
        web = helpers.example_web()
        self.assertFalse(any([self.judge(web, thing) for thing in helpers.junk()]))

    def test_near_ones(self):
        told = [self.judge(web, thing) for web, opening, _ in random_opened("near", 16)
                for thing in near_openings(web, opening)]
        self.assertGreater(told.count(True), 200)
        self.assertGreater(told.count(False), 5000)

    def test_what_makes_an_opening_none(self):
        web = Web(["a", "b", "c"], [("a", "b"), ("b", "c")], 5)
        right = {"a": {("a", "b"): 1}, "b": {("a", "b"): 4, ("b", "c"): 0}, "c": {("b", "c"): 2}}
        self.assertIs(is_opening(web, right), True)
        wrong = [{**right, "a": {("a", "b"): 1, ("b", "c"): 2}}, {**right, "c": {("a", "b"): 1}}, {**right, "a": {}},
                 {**right, "b": {("a", "b"): 4}}, {**right, "a": {("b", "a"): 1}}, {**right, "a": {("a", "b"): 5}},
                 {**right, "a": {("a", "b"): -1}}, {**right, "a": {("a", "b"): True}}, {**right, "a": {("a", "c"): 1}},
                 {**right, "a": [(("a", "b"), 1)]}, list(right.items()), {**right, "d": {}}, {"a": right["a"], "b": right["b"]},
                 {**right, "a": {"a-b": 1}}, {**right, "a": {("a", "b"): "1"}}]
        for thing in wrong:
            self.assertIs(is_opening(web, thing), False, thing)
        alone = Web(["a", "b"], [], 5)
        self.assertIs(is_opening(alone, {"a": {}, "b": {}}), True)
        for thing in [{}, {"a": {}}, {"a": {}, "b": []}, {"a": {}, "b": None}, {"a": {}, "b": {None: 1}}]:
            self.assertIs(is_opening(alone, thing), False)


class Wrong(unittest.TestCase):
    def test_wrong_arguments(self):
        web, coins = helpers.example_web(), helpers.example_coins()
        opening, sayings = honest(web, coins), say(web, coins, {person: 0 for person in web.people})
        wrong = [("web", InvalidWeb, helpers.no_webs())]
        for thing in [opening, None]:
            helpers.check_errors(self, is_opening, {"web": web, "thing": thing}, wrong)
        wrong.append(("opening", InvalidOpening, no_openings(web, opening)))
        helpers.check_errors(self, torn, {"web": web, "opening": opening}, wrong)
        wrong.append(("sayings", InvalidSayings, helpers.no_numbers(sayings, 10) + [coins, opening]))
        for call in [unfit, fewest_liars, in_fewest]:
            helpers.check_errors(self, call, {"web": web, "opening": opening, "sayings": sayings}, wrong)
        for thing in [[], None]:
            right = {"web": web, "opening": opening, "sayings": sayings, "thing": thing}
            helpers.check_errors(self, are_liars, right, wrong)

    def test_openings_of_another_web(self):
        web, coins = helpers.example_web(), helpers.example_coins()
        opening = honest(web, coins)
        for other in [Web(web.people, web.ties, 9), Web(web.people, web.ties[1:], 10), Web(web.people + ["zoe"], web.ties, 10)]:
            self.assertIs(helpers.raised(torn, {"web": other, "opening": opening}), InvalidOpening)

    def test_all_parameters_by_name(self):
        web = Web(["a", "b"], [("a", "b")], 5)
        opening, sayings = {"a": {("a", "b"): 3}, "b": {("a", "b"): 2}}, {"a": 3, "b": 2}
        self.assertIs(is_opening(thing=opening, web=web), True)
        self.assertEqual(torn(opening=opening, web=web), [("a", "b")])
        self.assertEqual(unfit(sayings=sayings, opening=opening, web=web), ["b"])
        self.assertEqual(fewest_liars(sayings=sayings, opening=opening, web=web), ["b"])
        self.assertEqual(in_fewest(sayings=sayings, opening=opening, web=web), ["b"])
        self.assertIs(are_liars(thing=["a", "b"], sayings=sayings, opening=opening, web=web), True)
        self.assertIs(are_liars(web, opening, sayings, ["a"]), False)

    def test_the_arguments_and_the_answers_are_apart(self):
        for web, opening, sayings in random_opened("apart", 20):
            liars = all_liars(web, opening, sayings)[0]
            self.assertIs(answer(self, are_liars, web, opening, sayings, liars), True)
            self.assertIs(answer(self, is_opening, web, opening), True)


if __name__ == "__main__":
    unittest.main()
