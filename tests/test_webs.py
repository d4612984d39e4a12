"""Webs, ties and pieces: promises 3, 5 and 8, and 2 as far as it is about them."""

import itertools
import random
import unittest

from hushweb.errors import InvalidBand, InvalidModulus, InvalidPeople, InvalidTies, InvalidWeb, UnknownPerson
from hushweb.webs import Web, pieces, tied, ties_of
from tests import helpers, plain


class Webs(unittest.TestCase):
    def test_properties(self):
        for people, ties, modulus in helpers.random_webs("properties", 200):
            web = Web(people, ties, modulus)
            self.assertEqual((web.people, web.ties, web.modulus), (sorted(people), sorted(ties), modulus))
            self.assertEqual([type(web.people), type(web.ties), type(web.modulus)], [list, list, int])
            self.assertTrue(all(type(tie) is tuple for tie in web.ties))

    def test_edges_that_are_right(self):
        self.assertEqual(Web(["a"], [], 2).people, ["a"])
        self.assertEqual(Web(["abcdefgh"], [], 100).people, ["abcdefgh"])
        eight = list("hgfedcba")
        web = Web(eight, list(reversed(helpers.all_ties(eight))), 100)
        self.assertEqual((web.people, len(web.ties), web.modulus), (list("abcdefgh"), 28, 100))
        for letter in "abcdefghijklmnopqrstuvwxyz":
            self.assertEqual(Web([letter], [], 2).people, [letter])
        for modulus in range(2, 101):
            self.assertEqual(Web(["a", "b"], [], modulus).modulus, modulus)
        self.assertEqual(Web(["ann", "anna"], [("ann", "anna")], 2).ties, [("ann", "anna")])

    def test_order_of_handing_in_means_nothing(self):
        people = ["a", "b", "c"]
        ties = [("a", "b"), ("a", "c"), ("b", "c")]
        web = Web(people, ties, 7)
        for some_people in itertools.permutations(people):
            for some_ties in itertools.permutations(ties):
                other = Web(list(some_people), list(some_ties), 7)
                self.assertTrue(web == other)
                self.assertFalse(web != other)
                self.assertEqual((other.people, other.ties), (people, ties))

    def test_webs_are_equal_just_if_all_is(self):
        webs = [Web(people, ties, modulus) for people in [["a", "b"], ["a", "c"], ["a", "b", "c"]]
                for ties in [[], [(people[0], people[1])]] for modulus in [2, 3]]
        for one, other in itertools.product(range(len(webs)), repeat=2):
            self.assertIs(webs[one] == webs[other], one == other)
            self.assertIs(webs[one] != webs[other], one != other)

    def test_a_web_is_equal_to_nothing_else(self):
        web = helpers.example_web()

        class Agreeable:
            def __eq__(self, other):
                return True

        things = [thing for thing in helpers.junk() if not isinstance(thing, Web)]
        things += [(web.people, web.ties, web.modulus), [web.people, web.ties, web.modulus], Web, web.people,
                   {"people": web.people, "ties": web.ties, "modulus": 10}, Agreeable()]
        for thing in things:
            self.assertIs(web == thing, False)
            self.assertIs(web != thing, True)
        self.assertTrue([web] == [helpers.example_web()])

    def test_wrong_arguments(self):
        def right_people(thing):
            return thing in (["ann"], ["zoe"], ["ann", "zoe"]) and type(thing) is list

        people = ["ann", "bob", "cy"]
        more_people = [["abcdefghi"], ["ann", "bob", ""], list("abcdefghi"), ["ann", "bob", "ann"], ("ann", "bob"),
                       {"ann": 1, "bob": 2, "cy": 3}, "ann", ["ann", "bob", "Cy"], ["ann", "bob", "c y"],
                       ["ann", "bob", "cy1"], ["ann", "bob", "c-y"], ["ann", "bob", "cy\n"], ["ann", "bob", "\u00e4"],
                       ["ann", "bob", b"cy"], ["ann", "bob", "`"], ["ann", "bob", "{"], ["ann", "bob", None],
                       ["ann", "bob", ["cy"]], ["ann", "bob", ("cy",)], ["ann", "bob", True], ["ann", "bob", 3],
                       ["ann", "bob", helpers.example_web()], [people], ["ann", "bob", "cy ", "dee"]]
        bad_people = [thing for thing in helpers.junk() if not right_people(thing)] + more_people
        more_ties = [[("bob", "ann")], [("ann", "ann")], [("ann", "zoe")], [("a", "ann")], [("ann", "bob")] * 2,
                     [("ann", "bob"), ("ann", "cy"), ("ann", "bob")], [("ann", "bob"), ("bob", "ann")],
                     [["ann", "bob"]], [("ann", "bob"), ["ann", "cy"]], (("ann", "bob"),), {("ann", "bob"): 1},
                     ("ann", "bob"), [("ann", "bob", "cy")], [("ann",)], [()], ["ann"], ["annbob"], [("ann", 1)],
                     [(1, "ann")], [("ann", None)], [(True, False)], [(0, 1)], [(["ann"], ["bob"])], [("ann", ["bob"])],
                     [(("ann",), ("bob",))], [[("ann", "bob")]], [("", "ann")], [("Ann", "bob")], [{"ann", "bob"}],
                     [helpers.example_web()], [(helpers.example_web(), "ann")], [{"ann": "bob"}], [("ann", "bob\n")]]
        bad_ties = [thing for thing in helpers.junk() if thing != [] and thing != [("ann", "bob")]] + more_ties
        more_moduli = [1, 101, 0, -2, -10, 102, "5", "10", [5], (5,), {5: 5}, 10 ** 40 - 1]
        bad_moduli = [thing for thing in helpers.junk() if not (type(thing) is int and 2 <= thing <= 100)] + more_moduli
        right = {"people": people, "ties": [("ann", "bob"), ("bob", "cy")], "modulus": 5}
        wrong = [("people", InvalidPeople, bad_people), ("ties", InvalidTies, bad_ties),
                 ("modulus", InvalidModulus, bad_moduli)]
        helpers.check_errors(self, Web, right, wrong)

    def test_each_tie_of_strangers_or_turned_round_is_wrong(self):
        people = ["b", "d", "f"]
        for one, other in itertools.product("abcdefg", repeat=2):
            right = one in people and other in people and one < other
            told = helpers.raised(Web, {"people": people, "ties": [("b", "d"), (one, other)], "modulus": 2})
            self.assertIs(told, None if right and (one, other) != ("b", "d") else InvalidTies)

    def test_a_call_that_raises_changes_nothing(self):
        web = helpers.example_web()
        for people, ties, modulus in [([], [], 2), (["a"], [("a", "a")], 2), (["a"], [], 1)]:
            with self.assertRaises(ValueError):
                web.__init__(people, ties, modulus)
            self.assertEqual(web, helpers.example_web())

    def test_arguments_are_copied_and_left_as_they_were(self):
        people, ties = ["c", "a", "b"], [("b", "c"), ("a", "b")]
        web = Web(people, ties, 9)
        self.assertEqual((people, ties), (["c", "a", "b"], [("b", "c"), ("a", "b")]))
        people.append("d")
        people[0] = "x"
        ties.clear()
        self.assertEqual((web.people, web.ties), (["a", "b", "c"], [("a", "b"), ("b", "c")]))

    def test_what_is_returned_can_be_changed(self):
        web = helpers.example_web()
        self.assertTrue(helpers.all_new(web.people, web.people, web.ties, web.ties))
        web.people.append("zoe")
        web.people.clear()
        web.ties.pop()
        web.ties[0] = None
        pieces(web, [])[0].clear()
        pieces(web, ["cy"]).clear()
        ties_of(web, "cy").clear()
        self.assertEqual(web, helpers.example_web())
        self.assertEqual(pieces(web, []), [["ann", "bob", "cy", "dee", "eve"]])
        self.assertEqual(ties_of(web, "cy"), ["ann", "bob", "dee"])

    def test_all_parameters_by_name(self):
        web = Web(modulus=10, ties=[("a", "b")], people=["b", "a", "c"])
        self.assertEqual(web, Web(["a", "b", "c"], [("a", "b")], 10))
        self.assertIs(tied(other="a", one="b", web=web), True)
        self.assertEqual(ties_of(person="b", web=web), ["a"])
        self.assertEqual(pieces(band=["a"], web=web), [["b"], ["c"]])


class Ties(unittest.TestCase):
    def test_tied_and_ties_of(self):
        for people, ties, modulus in helpers.random_webs("ties", 120):
            web = Web(people, ties, modulus)
            for one in people:
                for other in people:
                    self.assertIs(tied(web, one, other), (one, other) in ties or (other, one) in ties)
                found = ties_of(web, one)
                self.assertIs(type(found), list)
                self.assertEqual(found, sorted(person for person in people
                                               if (one, person) in ties or (person, one) in ties))

    def test_nobody_is_tied_to_himself(self):
        web = Web(["a", "b"], [("a", "b")], 2)
        self.assertIs(tied(web, "a", "a"), False)
        self.assertEqual(ties_of(web, "a"), ["b"])

    def test_wrong_arguments(self):
        web = helpers.example_web()
        strangers = helpers.no_persons(web) + ["zoe", "an", "annb", "ANN", " ann", ["ann"], ("ann",), {"ann": 1}, web]
        wrong = [("web", InvalidWeb, helpers.no_webs()), ("one", UnknownPerson, strangers),
                 ("other", UnknownPerson, strangers)]
        helpers.check_errors(self, tied, {"web": web, "one": "ann", "other": "eve"}, wrong)
        wrong = [("web", InvalidWeb, helpers.no_webs()), ("person", UnknownPerson, strangers)]
        helpers.check_errors(self, ties_of, {"web": web, "person": "cy"}, wrong)

    def test_returned_lists_are_new(self):
        web = helpers.example_web()
        self.assertTrue(helpers.all_new(ties_of(web, "cy"), ties_of(web, "cy"), web.people))


class Pieces(unittest.TestCase):
    def check(self, people, ties, band):
        web = Web(people, ties, 3)
        before = list(band)
        found = pieces(web, band)
        self.assertEqual(helpers.frozen(found), helpers.frozen(plain.pieces(people, ties, band)), (people, ties, band))
        self.assertTrue(helpers.all_new(found, band, pieces(web, band)))
        self.assertEqual(band, before)

    def test_all_webs_of_up_to_four_people_and_all_bands(self):
        for many in range(1, 5):
            people = ["a", "b", "c", "d"][:many]
            ties = helpers.all_ties(people)
            for size in range(len(ties) + 1):
                for some in itertools.combinations(ties, size):
                    for band in helpers.bands(people):
                        self.check(people, list(some), band)

    def test_webs_of_one_to_eight_people_and_bands_in_any_order(self):
        rng = random.Random("bands")
        for people, ties, _ in helpers.random_webs("pieces", 400):
            for many in range(len(people) + 1):
                self.check(people, ties, rng.sample(people, many))

    def test_long_ways(self):
        people = list("abcdefgh")
        rng = random.Random("ways")
        for _ in range(60):
            way = rng.sample(people, 8)
            ties = [tuple(sorted(pair)) for pair in zip(way, way[1:])]
            rng.shuffle(ties)
            self.assertEqual(pieces(Web(people, ties, 2), []), [people])
            at = rng.randrange(8)
            parts = sorted(sorted(part) for part in [way[:at], way[at + 1:]] if part)
            self.assertEqual(pieces(Web(people, ties, 2), [way[at]]), parts)

    def test_bands_of_nobody_and_of_all(self):
        for people, ties, _ in helpers.random_webs("ends", 40):
            web = Web(people, ties, 2)
            self.assertEqual(pieces(web, people), [])
            self.assertEqual(sorted(sum(pieces(web, []), [])), sorted(people))
            self.assertEqual(pieces(web, people[::-1]), [])
        self.assertEqual(pieces(Web(["b", "a", "c"], [], 2), []), [["a"], ["b"], ["c"]])
        self.assertEqual(pieces(Web(["a"], [], 2), []), [["a"]])
        self.assertEqual(pieces(Web(["a"], [], 2), ["a"]), [])

    def test_wrong_arguments(self):
        web = helpers.example_web()
        wrong = [("web", InvalidWeb, helpers.no_webs()), ("band", InvalidBand, helpers.no_bands(web))]
        helpers.check_errors(self, pieces, {"web": web, "band": ["cy"]}, wrong)
        self.assertEqual(web, helpers.example_web())


if __name__ == "__main__":
    unittest.main()
