"""Trees of cases: promise 25, and 2 as far as it is about them."""

import random
import unittest

from hushweb.cases import case_tree, is_case_tree
from hushweb.errors import InvalidNumber, InvalidOpening, InvalidSayings, InvalidWeb
from hushweb.openings import fewest_liars, torn, unfit
from hushweb.webs import Web
from tests import helpers
from tests.helpers import answer
from tests.test_openings import all_liars, honest, no_openings, plain_saying, plain_torn, plain_unfit, random_opened


def plain_is_tree(web, opening, sayings, size, thing):
    """Whether an object is a tree of cases, by the words of the document."""
    chosen = plain_unfit(web, opening, sayings)
    if size < len(chosen):
        return type(thing) is tuple and thing == ()
    return plain_is_part(plain_torn(web, opening), set(chosen), size - len(chosen), thing)


def plain_is_part(ties, chosen, left, thing):
    if type(thing) is not tuple or len(thing) != 3 or type(thing[0]) is not tuple:
        return False
    tie, first, other = thing
    if tie not in ties or set(tie) & chosen:
        return False
    if left == 0:
        return first is None and other is None
    return (plain_is_part(ties, chosen | {tie[0]}, left - 1, first)
            and plain_is_part(ties, chosen | {tie[1]}, left - 1, other))


def all_trees(ties, chosen, left):
    """All trees of cases for torn ties, chosen people and a number left of at least 0."""
    out = []
    for tie in ties:
        if not set(tie) & set(chosen):
            if left == 0:
                out.append((tie, None, None))
            else:
                others = all_trees(ties, chosen + [tie[1]], left - 1)
                out += [(tie, first, other) for first in all_trees(ties, chosen + [tie[0]], left - 1) for other in others]
    return out


def depth(tree):
    return 0 if not tree else 1 + max(depth(tree[1]), depth(tree[2]))


def ring_of_torn_ties(people, ties, modulus=5):
    """A web whose ties are all torn, with sayings that fit all claims."""
    web = Web(people, ties, modulus)
    opening = {person: {tie: int(person == tie[0]) for tie in web.ties if person in tie} for person in web.people}
    return web, opening, {person: plain_saying(web, opening, person) for person in web.people}


def turned_trees(web, tree):
    """Objects that are nearly a tree: with parts exchanged, left out, put in, of other kinds, at each place."""
    if tree == ():
        return [[], None, ((),), ((), (), ()), 0, "", {}, (None,), (("a", "b"), None, None)]
    tie, first, other = tree
    out = [list(tree), (tie, first), (tie, first, other, None), (tie,), (), tree + tree, (tree,), [tree], (other, first, tie),
           (first, other, tie), (tie, (), ()), (tie, None, None), (tie, first, None), (tie, None, other), (tie, (), other),
           (tie, first, ()), (tie, other, first), (tie, tree, tree), (tie[::-1], first, other), (list(tie), first, other),
           ("-".join(tie), first, other), (tie + tie, first, other), (None, first, other), (tie, [], []), (tie, False, False), None,
           (tie, 0, 0), {tie: (first, other)}, (tie, (first, other)), ((tie[0], "zoe"), first, other), (tie, tie, tie), tie]
    out += [(more, first, other) for more in web.ties]
    if first is not None:
        out += [(tie, part, other) for part in turned_trees(web, first)] + [(tie, first, part) for part in turned_trees(web, other)]
        out += [first, other, (tie, list(first), other), (tie, first, list(other)), (first[0], first, other)]
    else:
        out += [(tie, tree, tree), (tie, (tie, None, None), (tie, None, None))]
        out += [(tie, (more, None, None), (more, None, None)) for more in web.ties]
    return out


class Trees(unittest.TestCase):
    def test_against_all_liars(self):
        kinds = []
        cases = list(random_opened("trees", 200))
        cases += [ring_of_torn_ties(people, ties, modulus) for people, ties, modulus in helpers.random_webs("torn trees", 80)]
        for web, opening, sayings in cases:
            least = min(len(band) for band in all_liars(web, opening, sayings))
            for size in range(8):
                found = answer(self, case_tree, web, opening, sayings, size)
                self.assertEqual(found is None, least <= size)
                self.assertIs(is_case_tree(web, opening, sayings, size, found), found is not None)
                if found is not None:
                    self.assertIs(plain_is_tree(web, opening, sayings, size, found), True)
                    kinds.append(depth(found))
                    for other in range(8):
                        self.assertIs(is_case_tree(web, opening, sayings, other, found),
                                      plain_is_tree(web, opening, sayings, other, found))
        for deep in range(5):
            self.assertGreater(kinds.count(deep), 10, deep)

    def test_all_trees_of_small_webs(self):
        tried = 0
        for people, ties in [("ab", [("a", "b")]), ("abc", helpers.all_ties("abc")), ("abcd", [("a", "b"), ("c", "d")]),
                             ("abcd", [("a", "b"), ("b", "c"), ("c", "d"), ("a", "d")]), ("abcd", helpers.all_ties("abcd"))]:
            web, opening, sayings = ring_of_torn_ties(list(people), ties)
            least = len(fewest_liars(web, opening, sayings))
            for size in range(4):
                trees = all_trees(web.ties, [], size)
                self.assertEqual(trees == [], least <= size)
                for tree in trees[:300]:
                    self.assertIs(is_case_tree(web, opening, sayings, size, tree), True)
                    self.assertIs(is_case_tree(web, opening, sayings, size + 1, tree), False)
                    tried += 1
                if trees:
                    self.assertIn(case_tree(web, opening, sayings, size), trees)
        self.assertGreater(tried, 100)

    def test_turned_trees(self):
        told = []
        cases = [ring_of_torn_ties(list("abcd"), helpers.all_ties("abcd")), ring_of_torn_ties(list("abcdef"), helpers.all_ties("abcdef")),
                 ring_of_torn_ties(list("abc"), [("a", "b"), ("b", "c")])]
        cases += list(random_opened("turned trees", 60))
        for web, opening, sayings in cases:
            for size in range(8):
                tree = case_tree(web, opening, sayings, size)
                if tree is not None and depth(tree) < 4:
                    for thing in turned_trees(web, tree):
                        right = plain_is_tree(web, opening, sayings, size, thing)
                        before = helpers.frozen(thing)
                        self.assertIs(is_case_tree(web, opening, sayings, size, thing), right, thing)
                        self.assertEqual(helpers.frozen(thing), before)
                        told.append(right)
        self.assertGreater(told.count(True), 100)
        self.assertGreater(told.count(False), 2000)

    def test_more_unfit_people_than_the_size(self):
        people = list("abcdefgh")
        web = Web(people, helpers.all_ties(people), 7)
        opening = honest(web, {tie: 1 for tie in web.ties})
        fitting = {person: plain_saying(web, opening, person) for person in people}
        for many in range(9):
            sayings = {person: (fitting[person] + (at < many)) % 7 for at, person in enumerate(people)}
            self.assertEqual(unfit(web, opening, sayings), people[:many])
            for size in range(8):
                found = case_tree(web, opening, sayings, size)
                self.assertEqual(found, () if size < many else None)
                self.assertIs(is_case_tree(web, opening, sayings, size, ()), size < many)
                for thing in [None, [], ((),), (("a", "b"), None, None), False, 0, ""]:
                    self.assertIs(is_case_tree(web, opening, sayings, size, thing), False)

    def test_a_tie_of_a_chosen_person_and_one_that_is_not_torn(self):
        web, opening, sayings = ring_of_torn_ties(list("abcd"), [("a", "b"), ("b", "c"), ("c", "d")])
        opening["d"][("c", "d")] = opening["c"][("c", "d")]
        sayings = {person: plain_saying(web, opening, person) for person in web.people}
        self.assertEqual(torn(web, opening), [("a", "b"), ("b", "c")])
        for tie in web.ties:
            self.assertIs(is_case_tree(web, opening, sayings, 0, (tie, None, None)), tie != ("c", "d"))
        self.assertIsNone(case_tree(web, opening, sayings, 1))
        for tie in web.ties:
            for first in web.ties:
                for other in web.ties:
                    thing = (tie, (first, None, None), (other, None, None))
                    self.assertIs(is_case_tree(web, opening, sayings, 1, thing), False)
        unlike = {**sayings, "b": (sayings["b"] + 1) % 5}
        self.assertEqual(unfit(web, opening, unlike), ["b"])
        for tie in web.ties:
            self.assertIs(is_case_tree(web, opening, unlike, 1, (tie, None, None)), False)
        self.assertIsNone(case_tree(web, opening, unlike, 1))
        self.assertEqual(case_tree(web, opening, unlike, 0), ())

    def test_the_greatest_trees(self):
        people = list("abcdefgh")
        web, opening, sayings = ring_of_torn_ties(people, helpers.all_ties(people))
        self.assertEqual(len(fewest_liars(web, opening, sayings)), 7)
        for size in range(7):
            tree = case_tree(web, opening, sayings, size)
            self.assertEqual(depth(tree), size + 1)
            self.assertIs(plain_is_tree(web, opening, sayings, size, tree), True)
            self.assertIs(is_case_tree(web, opening, sayings, size, tree), True)
        self.assertIsNone(case_tree(web, opening, sayings, 7))


class Wrong(unittest.TestCase):
    def test_objects_of_all_kinds(self):
        for web, opening, sayings in random_opened("objects", 15):
            for size in (0, 1, 7):
                for thing in helpers.junk() + [web.ties, opening, sayings, (web.ties, None, None)]:
                    before = helpers.frozen(thing)
                    right = plain_is_tree(web, opening, sayings, size, thing)
                    self.assertIs(is_case_tree(web, opening, sayings, size, thing), right, thing)
                    self.assertEqual(helpers.frozen(thing), before)

    def test_wrong_arguments(self):
        web, coins = helpers.example_web(), helpers.example_coins()
        opening = honest(web, coins)
        sayings = {person: plain_saying(web, opening, person) for person in web.people}
        sizes = [thing for thing in helpers.junk() if not (type(thing) is int and 0 <= thing <= 7)] + [-1, 8, True, "0", [0], (7,)]
        wrong = [("web", InvalidWeb, helpers.no_webs()), ("opening", InvalidOpening, no_openings(web, opening)),
                 ("sayings", InvalidSayings, helpers.no_numbers(sayings, 10) + [coins, opening]), ("size", InvalidNumber, sizes)]
        right = {"web": web, "opening": opening, "sayings": sayings, "size": 0}
        helpers.check_errors(self, case_tree, right, wrong)
        for thing in [(), None]:
            helpers.check_errors(self, is_case_tree, {**right, "thing": thing}, wrong)
        for size in range(-3, 12):
            error = None if 0 <= size <= 7 else InvalidNumber
            self.assertIs(helpers.raised(case_tree, {**right, "size": size}), error)
            self.assertIs(helpers.raised(is_case_tree, {**right, "size": size, "thing": ()}), error)

    def test_all_parameters_by_name(self):
        web, opening, sayings = ring_of_torn_ties(["a", "b"], [("a", "b")])
        tree = case_tree(size=0, sayings=sayings, opening=opening, web=web)
        self.assertEqual(tree, (("a", "b"), None, None))
        self.assertIs(is_case_tree(thing=tree, size=0, sayings=sayings, opening=opening, web=web), True)
        rng = random.Random("positions")
        for size in rng.sample(range(8), 8):
            self.assertEqual(case_tree(web, opening, sayings, size), tree if size == 0 else None)


if __name__ == "__main__":
    unittest.main()
