"""Turns: promise 17, and 2 as far as it is about them."""

import itertools
import random
import unittest

from hushweb.errors import InvalidNumber, InvalidPeople, InvalidTimetable
from hushweb.turns import fewest_turns, is_timetable, timetable, unheard
from tests import helpers
from tests.helpers import answer
from tests.test_strength import no_integers

LETTERS = "abcdefghijklmnopqrstuvwxyz"
FIFTY = [first + second for first in "ab" for second in LETTERS][:50]


def plain_is_turns(thing):
    return (type(thing) is tuple and len(thing) >= 1 and all(type(turn) is int and turn in range(1, 21) for turn in thing)
            and all(one < other for one, other in itertools.combinations(thing, 2)))


def plain_is_name(thing):
    return type(thing) is str and 1 <= len(thing) <= 8 and all(letter in LETTERS for letter in thing)


def plain_is_timetable(thing):
    return (type(thing) is dict and 1 <= len(thing) <= 50 and all(plain_is_name(name) for name in thing)
            and all(plain_is_turns(turns) for turns in thing.values()))


def deaf(table, people):
    """Those of some people who have no turn alone among them."""
    return [one for one in people
            if set(table[one]) <= {turn for other in people if other != one for turn in table[other]}]


def plain_unheard(table, many):
    """All right answers: groups that are not heard, with one who has no turn alone."""
    groups = [people for size in range(1, many + 1) for people in itertools.combinations(sorted(table), size)]
    return [(list(people), one) for people in groups for one in deaf(table, people)]


def random_table(rng, many, turns):
    table = {}
    for name in rng.sample(FIFTY, many):
        table[name] = tuple(sorted(rng.sample(range(1, turns + 1), rng.randrange(1, turns + 1))))
    return table


def no_timetables(right):
    """Objects that are no timetable, many of them nearly one."""
    out = helpers.junk() + [{}, [right], (right,), list(right.items()), list(right), tuple(right)]
    wrong_turns = helpers.junk() + [(), (0,), (21,), (0, 1), (1, 21), (-1,), (2, 1), (1, 1), (1, 2, 2), (1, 3, 2), (True,),
                                    (1, True), (False, 1), [1], [1, 2], {1: 2}, ("1",), (1, None), (1, (2,)), ((1, 2),),
                                    (1, [2]), "12", 1, tuple(range(21)), tuple(range(1, 22)), (1, "a"), (10 ** 39,)]
    wrong_names = ["", "abcdefghi", "A", "a b", "a1", "a\n", 1, True, None, (), ("a",), ("a", "b"), "ann-bob", "`", "{"]
    for at, name in enumerate(list(right)):
        out += [{**right, name: turns} for turns in wrong_turns]
        out += [{(wrong if old == name else old): right[old] for old in right} for wrong in wrong_names]
    out += [{**right, wrong: (1,)} for wrong in wrong_names]
    out += [{name: (1,) for name in FIFTY + ["zz"]}, {name: (1,) for name in range(50)}]
    return [thing for thing in out if not plain_is_timetable(thing)]


class Judged(unittest.TestCase):
    def test_right_ones(self):
        rng = random.Random("timetables")
        for _ in range(200):
            table = random_table(rng, rng.randrange(1, 51), rng.randrange(1, 21))
            before = helpers.frozen(table)
            self.assertIs(is_timetable(table), True)
            self.assertEqual(helpers.frozen(table), before)
        for table in [{"a": (1,)}, {"a": (20,)}, {"abcdefgh": tuple(range(1, 21))}, {name: (1, 20) for name in FIFTY},
                      {"b": (1,), "a": (1,)}]:
            self.assertIs(is_timetable(table), True)

    def test_wrong_ones(self):
        for thing in no_timetables({"b": (1, 2), "a": (20,)}):
            before = helpers.frozen(thing)
            self.assertIs(is_timetable(thing), False, thing)
            self.assertEqual(helpers.frozen(thing), before)

    def test_how_many_people(self):
        many_names = FIFTY + ["zz"]
        for many in range(52):
            self.assertIs(is_timetable({name: (3,) for name in many_names[:many]}), 1 <= many <= 50)

    def test_turns(self):
        for turn in range(-2, 24):
            self.assertIs(is_timetable({"a": (turn,)}), 1 <= turn <= 20)
        for turns in itertools.product(range(1, 4), repeat=3):
            self.assertIs(is_timetable({"a": (1,), "b": turns}), turns == (1, 2, 3))


class Unheard(unittest.TestCase):
    def check(self, table, many):
        right = plain_unheard(table, many)
        found = answer(self, unheard, table, many)
        if not right:
            self.assertIsNone(found, (table, many))
            return False
        self.assertEqual([type(found), type(found[0])], [tuple, list])
        self.assertIn(found, right)
        return True

    def test_small_timetables(self):
        rng = random.Random("unheard")
        found = []
        for _ in range(400):
            table = random_table(rng, rng.randrange(1, 7), rng.randrange(1, 9))
            for many in [1, 2, 3]:
                found.append((many, self.check(table, many)))
        self.assertEqual({each for each in found}, {(1, False), (2, False), (2, True), (3, False), (3, True)})

    def test_all_timetables_of_three_people_and_three_turns(self):
        choices = [turns for size in [1, 2, 3] for turns in itertools.combinations([1, 2, 20], size)]
        for turns in itertools.product(choices, repeat=3):
            for many in [1, 2, 3]:
                self.check(dict(zip(["c", "a", "b"], turns)), many)

    def test_nobody_alone_is_unheard(self):
        for many in [1, 2, 3]:
            self.assertIsNone(unheard({"a": (1,)}, many))
        self.assertIsNone(unheard({"a": (1,), "b": (1,)}, 1))
        self.assertIn(unheard({"b": (1,), "a": (1,)}, 2), [(["a", "b"], "a"), (["a", "b"], "b")])

    def test_fifty_people(self):
        alone = {name: (1 + at % 20,) for at, name in enumerate(FIFTY[:20])}
        self.assertIsNone(unheard(alone, 3))
        pairs = list(itertools.combinations(range(1, 12), 2))[:50]
        table = dict(zip(FIFTY, pairs))
        self.assertIsNone(unheard(table, 2))
        self.assertIn(unheard(table, 3), plain_unheard(table, 3))
        # Any two have at most one turn in common, so that it takes three others to take all of three turns.
        lines = [turns for turns in itertools.combinations(range(1, 21), 3)]
        chosen = []
        for turns in lines:
            if all(len(set(turns) & set(other)) <= 1 for other in chosen):
                chosen.append(turns)
        table = dict(zip(FIFTY, chosen))
        self.assertGreater(len(table), 40)
        self.assertIsNone(unheard(table, 3))
        last = FIFTY[len(table) - 1]
        table[last] = table[FIFTY[0]][:2] + (20,) if table[FIFTY[0]][2] != 20 else table[FIFTY[0]]
        self.assertEqual(unheard(table, 3) is None, not plain_unheard(table, 3))

    def test_wrong_arguments(self):
        right = {"b": (1, 2), "a": (20,)}
        wrong = [("timetable", InvalidTimetable, no_timetables(right)), ("many", InvalidNumber, no_integers(1, 3))]
        helpers.check_errors(self, unheard, {"timetable": right, "many": 3}, wrong)
        helpers.check_errors(self, unheard, {"timetable": {name: (1,) for name in FIFTY}, "many": 1}, wrong)


class Fewest(unittest.TestCase):
    def test_each_number_of_people(self):
        rng = random.Random("timetable")
        for many in range(1, 51):
            people = rng.sample(FIFTY, many)
            table = answer(self, timetable, people)
            self.assertIs(is_timetable(table), True)
            self.assertEqual(sorted(table), sorted(people))
            self.assertIsNone(unheard(table, 2))
            self.assertEqual([deaf(table, pair) for pair in itertools.combinations(people, 2) if deaf(table, pair)], [])
            self.assertLessEqual(max(max(turns) for turns in table.values()), fewest_turns(many))

    def test_the_fewest_turns(self):
        found = [fewest_turns(many) for many in range(1, 51)]
        self.assertEqual(found, [1, 2, 3] + [4] * 3 + [5] * 4 + [6] * 10 + [7] * 15 + [8] * 15)
        self.assertTrue(all(type(number) is int for number in found))

    def test_fewer_turns_would_not_do(self):
        # The most people of whom any two are heard, gone through for few turns.
        for turns in [1, 2, 3, 4]:
            choices = [set(some) for size in range(1, turns + 1) for some in itertools.combinations(range(turns), size)]
            groups = [[]]
            for choice in choices:
                groups += [group + [choice] for group in groups
                           if not any(choice <= other or other <= choice for other in group)]
            most = max(len(group) for group in groups)
            self.assertEqual(fewest_turns(most), turns)
            self.assertEqual(fewest_turns(most + 1), turns + 1)

    def test_the_timetable_does_not_share_the_people(self):
        people = ["b", "a"]
        table = timetable(people)
        people.append("c")
        self.assertEqual(sorted(table), ["a", "b"])

    def test_wrong_arguments(self):
        helpers.check_errors(self, fewest_turns, {"many": 50}, [("many", InvalidNumber, no_integers(1, 50))])
        things = helpers.junk() + [[], FIFTY + ["zz"], ["a", "a"], ("a", "b"), {"a": 1}, "ab", ["a", "B"], ["a", None],
                                   ["a", ["b"]], ["a", ("b",)], ["a", True], ["a", ""], ["abcdefghi"], [["a"]], ["a", 1]]
        no_people = [thing for thing in things if thing not in (["ann"], ["zoe"], ["ann", "zoe"]) or type(thing) is not list]
        helpers.check_errors(self, timetable, {"people": FIFTY}, [("people", InvalidPeople, no_people)])
        self.assertIs(helpers.raised(timetable, {"people": FIFTY + ["zz"]}), InvalidPeople)

    def test_all_parameters_by_name(self):
        self.assertEqual(fewest_turns(many=7), 5)
        self.assertEqual(unheard(many=2, timetable={"a": (1,), "b": (1, 2)}), (["a", "b"], "a"))
        self.assertIs(is_timetable(thing=timetable(people=["x", "y"])), True)


if __name__ == "__main__":
    unittest.main()
