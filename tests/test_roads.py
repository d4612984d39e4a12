"""Roads: promises 7 and 13, and 2 as far as it is about them."""

import itertools
import random
import unittest

from hushweb.errors import InvalidWeb, SamePerson, UnknownPerson
from hushweb.roads import are_roads, least_band, roads
from hushweb.webs import Web
from tests import helpers, plain
from tests.helpers import answer


def plain_is_road(web, one, other, thing):
    if type(thing) is not list or len(thing) < 2 or any(type(person) is not str for person in thing):
        return False
    near = all(tuple(sorted(pair)) in web.ties for pair in zip(thing, thing[1:]))
    return near and len(set(thing)) == len(thing) and [thing[0], thing[-1]] == [one, other]


def plain_are_roads(web, one, other, thing):
    if type(thing) is not list or not all(plain_is_road(web, one, other, road) for road in thing):
        return False
    for first, second in itertools.combinations(thing, 2):
        if set(first) & set(second) != {one, other} or first == second:
            return False
    return True


def most_roads(web, one, other):
    """How many roads there can be, by the fact that may be relied on; a tie is a road of its own."""
    tie = tuple(sorted([one, other]))
    rest = Web(web.people, [each for each in web.ties if each != tie], web.modulus)
    return plain.least_band(rest, one, other) + (tie in web.ties)


def all_roads(web, one, other):
    """All roads from one to other."""
    inner = [person for person in web.people if person not in (one, other)]
    found = [[one, *way, other] for many in range(len(inner) + 1) for way in itertools.permutations(inner, many)]
    return [road for road in found if plain_is_road(web, one, other, road)]


class Most(unittest.TestCase):
    def check(self, web, one, other):
        found = roads(web, one, other)
        self.assertTrue(plain_are_roads(web, one, other, found), (web.ties, found))
        self.assertIs(are_roads(web, one, other, found), True)
        self.assertEqual(len(found), most_roads(web, one, other), (web.ties, found))
        band = least_band(web, one, other)
        if tuple(sorted([one, other])) in web.ties:
            self.assertIsNone(band)
            self.assertIn([one, other], found)
        else:
            self.assertIs(type(band), list)
            self.assertTrue(plain.parts(web, band, one, other))
            self.assertEqual(len(band), len(found))
            self.assertEqual(len(set(band) - {one, other}), len(band))

    def test_all_webs_of_up_to_four_people(self):
        for many in range(2, 5):
            people = ["a", "b", "c", "d"][:many]
            ties = helpers.all_ties(people)
            for size in range(len(ties) + 1):
                for some in itertools.combinations(ties, size):
                    for one, other in itertools.permutations(people, 2):
                        self.check(Web(people, list(some), 2), one, other)

    def test_webs_of_five_to_eight_people(self):
        rng = random.Random("roads")
        for at in range(200):
            people = rng.sample(helpers.NAMES, 5 + at % 4)
            ties = helpers.all_ties(people)
            web = Web(people, rng.sample(ties, rng.randrange(len(people) - 2, len(ties) + 1)), 3)
            for one, other in rng.sample(list(itertools.permutations(people, 2)), 3):
                self.check(web, one, other)

    def test_no_band_of_fewer_people_than_roads_parts_the_two(self):
        rng = random.Random("fewer")
        for at in range(60):
            people = rng.sample(helpers.NAMES, 2 + at % 5)
            ties = helpers.all_ties(people)
            web = Web(people, rng.sample(ties, rng.randrange(len(ties) + 1)), 2)
            for one, other in itertools.combinations(people, 2):
                others = [person for person in people if person not in (one, other)]
                if tuple(sorted([one, other])) in web.ties:
                    continue
                many = len(roads(web, one, other))
                for size in range(many):
                    for band in itertools.combinations(others, size):
                        self.assertFalse(plain.parts(web, band, one, other))
                self.assertEqual(len(least_band(web, one, other)), many)

    def test_roads_that_have_to_go_back(self):
        # The shortest way from a to h takes one that both roads would need.
        ties = [("a", "b"), ("b", "c"), ("c", "h"), ("a", "d"), ("c", "d"), ("b", "e"), ("e", "h")]
        web = Web(list("abcdeh"), ties, 2)
        for one, other in [("a", "h"), ("h", "a")]:
            self.assertEqual(len(roads(web, one, other)), 2)
            self.check(web, one, other)
        ties = [("a", "b"), ("a", "c"), ("b", "d"), ("c", "d"), ("d", "e"), ("e", "f"), ("e", "g"), ("f", "h"), ("g", "h")]
        web = Web(list("abcdefgh"), ties, 2)
        self.assertEqual(len(roads(web, "a", "h")), 1)
        self.assertIn(least_band(web, "a", "h"), [["d"], ["e"]])

    def test_all_tied_to_all(self):
        for many in range(2, 9):
            people = list("abcdefgh")[:many]
            web = Web(people, helpers.all_ties(people), 2)
            self.assertEqual(len(roads(web, "a", people[-1])), many - 1)
            self.assertIsNone(least_band(web, "a", people[-1]))
        ties = [tie for tie in helpers.all_ties("abcdefgh") if tie != ("c", "f")]
        web = Web(list("abcdefgh"), ties, 2)
        self.assertEqual([len(roads(web, "f", "c")), least_band(web, "f", "c")], [6, list("abdegh")])

    def test_two_people_alone_and_two_in_unlike_parts(self):
        web = Web(["a", "b"], [("a", "b")], 2)
        self.assertEqual([roads(web, "a", "b"), roads(web, "b", "a")], [[["a", "b"]], [["b", "a"]]])
        self.assertIsNone(least_band(web, "a", "b"))
        web = Web(["a", "b", "c", "d"], [("a", "b"), ("c", "d")], 2)
        self.assertEqual([roads(web, "a", "c"), least_band(web, "a", "c")], [[], []])
        self.assertEqual([roads(web, "a", "b"), least_band(web, "a", "b")], [[["a", "b"]], None])

    def test_answers_are_new_and_arguments_stay(self):
        rng = random.Random("answers")
        for people, ties, modulus in helpers.random_webs("new", 80):
            if len(people) > 1:
                web = Web(people, ties, modulus)
                one, other = rng.sample(people, 2)
                found = answer(self, roads, web, one, other)
                answer(self, least_band, web, one, other)
                self.assertIs(answer(self, are_roads, web, one, other, found), True)


class Judged(unittest.TestCase):
    def test_lists_of_roads(self):
        rng = random.Random("judged")
        told = []
        for at in range(60):
            people = rng.sample(helpers.NAMES, 2 + at % 5)
            ties = helpers.all_ties(people)
            web = Web(people, rng.sample(ties, rng.randrange((len(ties) + 1) // 2, len(ties) + 1)), 2)
            one, other = rng.sample(people, 2)
            found = all_roads(web, one, other)
            best = roads(web, one, other)
            things = [rng.sample(found, min(many, len(found))) for many in [0, 1, 1, 2, 2, 3, 3, 4]]
            things += [best, best[::-1], best[1:], best + best[:1], best * 2, [road[::-1] for road in best], tuple(best),
                       [tuple(road) for road in best], best[:1] + [None], [best], [[]], [[one]], [[one, other]],
                       [[one, other]] * 2, [[one, other, one]], [[other, one]], [[one, "zoe", other]], [["zoe"]]]
            inner = [person for person in people if person not in (one, other)]
            ways = [[one, *rng.sample(inner, rng.randrange(len(inner) + 1)), other] for _ in range(6)]
            things += [[way] for way in ways] + [ways[:2], best + ways[:1]]
            for road in best:
                things += [[road[:-1]], [road[1:]], [road + [one]], [road + road], [road[:1] + road], road, "".join(road)]
                things += [[road[:-1] + road[1:]], [[road[0], *road[::-1]]], [road[:-1] + ["zoe", other]], [road[:1] * 2]]
            for thing in things:
                right = plain_are_roads(web, one, other, thing)
                told.append(right)
                before = helpers.frozen(thing)
                self.assertIs(are_roads(web, one, other, thing), right, (web.ties, thing))
                self.assertEqual(helpers.frozen(thing), before)
        self.assertGreater(min(told.count(True), told.count(False)), 400)

    def test_named_ones(self):
        web = Web(["a", "b", "c", "d"], [("a", "b"), ("a", "c"), ("b", "c"), ("b", "d"), ("c", "d"), ("a", "d")], 2)
        right = [[], [["a", "d"]], [["a", "b", "d"]], [["a", "b", "c", "d"]], [["a", "b", "d"], ["a", "c", "d"]],
                 [["a", "c", "d"], ["a", "d"], ["a", "b", "d"]], [["a", "d"], ["a", "c", "b", "d"]]]
        wrong = [[["a", "d"], ["a", "d"]], [["a", "b", "d"], ["a", "b", "d"]], [["a", "b", "a", "d"]], [["a", "b", "c", "b", "d"]],
                 [["a", "zoe", "d"]], [["d", "a"]], [["d", "b", "a"]], [["a", "b"]], [["b", "d"]], [["a"]], [[]],
                 [["a", "b", "c", "d"], ["a", "c", "d"]], [["a", "d"], ["a", "b", "d"], ["a", "d"]], ["ad"], ["a", "d"],
                 [("a", "d")], (["a", "d"],), {}, {"a": "d"}, [[["a"], ["d"]]], [["a", None, "d"]], [["a", "b", "d", "d"]],
                 [["a", "a", "d"]], [["a", "b", True]], "ad", ""]
        for thing in right:
            self.assertIs(are_roads(web, "a", "d", thing), True)
        for thing in wrong:
            self.assertIs(are_roads(web, "a", "d", thing), False, thing)
        web = Web(["a", "b", "c"], [("a", "b"), ("b", "c")], 2)
        self.assertIs(are_roads(web, "a", "c", [["a", "c"]]), False)
        self.assertIs(are_roads(web, "a", "c", [["a", "b", "c"]]), True)
        web = Web(["a", "b", "c", "d"], [("a", "b"), ("b", "c"), ("c", "d")], 2)
        ways = [["a", *way, "d"] for many in range(3) for way in itertools.permutations("bc", many)]
        self.assertEqual([way for way in ways if are_roads(web, "a", "d", [way])], [["a", "b", "c", "d"]])

    def test_objects_of_all_kinds(self):
        web = helpers.example_web()
        for thing in helpers.junk():
            before = helpers.frozen(thing)
            for near in [thing, [thing], [["ann", "bob"], thing], [["ann", thing, "bob"]], [["ann", "bob", thing]]]:
                self.assertIs(are_roads(web, "ann", "bob", near), plain_are_roads(web, "ann", "bob", near), near)
            self.assertEqual(helpers.frozen(thing), before)
        self.assertIs(are_roads(web, "ann", "bob", [["ann", "bob"]] * 2500), False)


class Wrong(unittest.TestCase):
    def test_wrong_arguments(self):
        web = helpers.example_web()
        strangers = helpers.no_persons(web) + ["zoe", "an", "annb", ["ann"], ("ann",), {"ann": 1}, web]
        wrong = [("web", InvalidWeb, helpers.no_webs()), ("one", UnknownPerson, strangers),
                 ("other", UnknownPerson, strangers)]
        for call in [roads, least_band]:
            helpers.check_errors(self, call, {"web": web, "one": "ann", "other": "dee"}, wrong)
        for thing in [[], None]:
            helpers.check_errors(self, are_roads, {"web": web, "one": "ann", "other": "dee", "thing": thing}, wrong)

    def test_the_same_person_twice(self):
        web = helpers.example_web()
        for person in web.people:
            for call in [roads, least_band]:
                self.assertIs(helpers.raised(call, {"web": web, "one": person, "other": person}), SamePerson)
            for thing in [[], [[person]], None, [[person, person]]]:
                right = {"web": web, "one": person, "other": person, "thing": thing}
                self.assertIs(helpers.raised(are_roads, right), SamePerson)
        for stranger in ["zoe", None, [], ["ann"], 1]:
            for call in [roads, least_band]:
                self.assertIs(helpers.raised(call, {"web": web, "one": stranger, "other": stranger}), UnknownPerson)
                self.assertIs(helpers.raised(call, {"web": stranger, "one": "ann", "other": "ann"}), InvalidWeb)

    def test_all_parameters_by_name(self):
        web = helpers.example_web()
        self.assertEqual(roads(other="eve", one="cy", web=web), [["cy", "dee", "eve"]])
        self.assertEqual(least_band(other="eve", one="cy", web=web), ["dee"])
        self.assertIs(are_roads(thing=[["cy", "dee", "eve"]], other="eve", one="cy", web=web), True)


if __name__ == "__main__":
    unittest.main()
