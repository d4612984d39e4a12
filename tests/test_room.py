"""Rooms: promise 19, and 2 as far as it is about them."""

import inspect
import itertools
import random
import unittest

from hushweb.errors import (InvalidBand, InvalidIndex, InvalidMessages, InvalidModulus, InvalidName, InvalidNumber,
                            InvalidWeights, NameIsTaken, NobodyThere, NothingToUndo, NoTie, SamePerson, TooMany,
                            UnknownPerson)
from hushweb.room import Room
from hushweb.views import view
from hushweb.webs import Web
from tests import helpers, plain
from tests.helpers import answer
from tests.plain_room import CHANCES, GROWING, PlainRoom, busy_pair, make, random_call, random_pair

TEN = ["ann", "bob", "cy", "dee", "eve", "f", "gregoryx", "zz", "kim", "lou"]


def weights_of(room, number):
    return [{person: number for person in web.people} for web, _ in room.talks]


def random_weights(rng, right, turn=None):
    """Weights for all talks: any ones, a few, or such as are alike along the ties of some talks."""
    out = []
    for people, coins, *_ in right.talks():
        kind = rng.randrange(4) if turn is None else turn
        if kind == 0:
            out.append(helpers.random_numbers(rng, people, right.modulus))
        elif kind == 1:
            out.append({person: 0 for person in people})
        elif kind == 2:
            out.append({person: rng.randrange(right.modulus) for person in people[:1]} | {person: 0 for person in people[1:]})
        else:
            parts = plain.pieces(people, list(coins), [])
            numbers = [rng.randrange(right.modulus) for _ in parts]
            out.append({person: numbers[at] for at, part in enumerate(parts) for person in part})
    return out


class Walks(unittest.TestCase):
    """Rooms beside plain ones, call by call."""

    def compare(self, room, right):
        self.assertEqual(room.people, right.people())
        self.assertEqual(room.coins, right.coins())
        self.assertEqual(len(room), len(right.calls))
        talks = right.talks()
        self.assertEqual([sayings for _, sayings in room.talks], [sayings for *_, sayings in talks])
        self.assertEqual([(web.people, web.ties, web.modulus) for web, _ in room.talks],
                         [(people, sorted(coins), right.modulus) for people, coins, _, _ in talks])
        if right.people():
            self.assertEqual(room.web(), Web(right.people(), list(right.coins()), right.modulus))
        else:
            self.assertIs(helpers.raised(room.web, {}), NobodyThere)

    def step(self, room, right, word, told):
        """Make one call on both; return its word, or the error that it raised."""
        error = right.error(word, *told)
        before = helpers.frozen(told)
        if error is not None:
            with self.assertRaises(error) as caught:
                make(room, word, told)
            self.assertIs(type(caught.exception), error)
            self.assertEqual(helpers.frozen(told), before)
            return error
        # The plain room remembers a dict of its own, as the other one is emptied behind the call.
        right.call(word, *[dict(thing) if type(thing) is dict else thing for thing in told])
        found = make(room, word, told)
        self.assertEqual(helpers.frozen(told), before)
        if word == "talk":
            self.assertEqual(found, right.talks()[-1][3])
            found.clear()
            told[0].clear()
        else:
            self.assertIsNone(found)
        return word

    def test_random_calls(self):
        rng = random.Random("walks")
        kinds = []
        for at in range(50):
            modulus = rng.choice([2, 3, 7, 100])
            room, right = Room(modulus), PlainRoom(modulus)
            names = TEN if at % 3 == 0 else TEN[:4]
            chances = {**GROWING, "join": 12} if at % 6 == 0 else CHANCES
            for _ in range(80):
                word, *told = random_call(rng, right, names, chances)
                kinds.append(self.step(room, right, word, told))
                self.compare(room, right)
        for kind in ["join", "leave", "tie", "untie", "talk", "undo", NameIsTaken, TooMany, UnknownPerson, SamePerson,
                     NoTie, InvalidNumber, NothingToUndo, NobodyThere]:
            self.assertGreater(kinds.count(kind), 4, kind)

    def test_steps_back_of_any_number(self):
        rng = random.Random("steps")
        for _ in range(12):
            room, right = random_pair(rng, Room, 7, TEN[:5], 40, GROWING)
            states = []
            for many in range(len(right.calls) + 1):
                part = PlainRoom(7)
                part.calls = right.calls[:many]
                states.append(part)
            for steps in range(1, len(room) + 1):
                other = room.copy()
                self.assertIsNone(other.undo(steps=steps))
                self.compare(other, states[len(room) - steps])
            for many in range(len(room) - 1, -1, -1):
                self.assertIsNone(room.undo())
                self.compare(room, states[many])
            self.assertIs(helpers.raised(room.undo, {}), NothingToUndo)

    def test_what_is_done_behind_steps_back(self):
        rng = random.Random("behind")
        for _ in range(10):
            room, right = random_pair(rng, Room, 5, TEN[:4], 30)
            for _ in range(6):
                steps = rng.randrange(1, max(2, min(6, len(right.calls) + 1)))
                if right.error("undo", steps) is None:
                    room.undo(steps=steps)
                    right.call("undo", steps)
                for _ in range(5):
                    word, *told = random_call(rng, right, TEN[:4], CHANCES)
                    if right.error(word, *told) is None:
                        make(room, word, told)
                        right.call(word, *told)
                self.compare(room, right)
                weights = random_weights(rng, right)
                total, between = right.known([], weights)
                found = room.known([], weights)
                self.assertTrue(found == (True, total) if not between else found[0] is False and found[1] in between)

    def test_copies_on_which_both_sides_go_on(self):
        rng = random.Random("copies")
        kinds = []
        for _ in range(12):
            pairs = [random_pair(rng, Room, 6, TEN[:5], 20)]
            for _ in range(4):
                room, right = rng.choice(pairs)
                pairs.append((room.copy(), right.copy()))
                for _ in range(12):
                    room, right = rng.choice(pairs)
                    word, *told = random_call(rng, right, TEN[:5], {**CHANCES, "undo": 4})
                    kinds.append(self.step(room, right, word, told))
                for room, right in pairs:
                    self.compare(room, right)
        self.assertGreater(kinds.count("undo"), 50)

    def test_copies_have_their_own_steps_back(self):
        room = helpers.example_room()
        many = len(room)
        one, other = room.copy(), room.copy()
        self.assertIs(type(one), Room)
        one.undo(steps=many)
        self.assertEqual((len(one), len(other), len(room)), (0, many, many))
        self.assertEqual(helpers.frozen(other), helpers.frozen(room))
        other.leave("ann")
        room.undo()
        self.assertEqual((len(other.talks), len(room.talks)), (3, 2))
        third = other.copy()
        third.undo(steps=2)
        self.assertEqual(helpers.frozen(third), helpers.frozen(room))
        self.assertIs(helpers.raised(one.copy().undo, {}), NothingToUndo)


class Seen(unittest.TestCase):
    def test_each_talk_behind_later_changes(self):
        rng = random.Random("seen")
        for _ in range(25):
            room, right = random_pair(rng, Room, rng.choice([2, 7, 100]), TEN[:6], 40)
            for index, (people, coins, messages, sayings) in enumerate(right.talks()):
                web = Web(people, list(coins), right.modulus)
                for _ in range(3):
                    band = rng.sample(people, rng.randrange(len(people) + 1))
                    found = answer(self, room.seen, index, band)
                    self.assertEqual(helpers.frozen(found[0]), helpers.frozen(band))
                    self.assertEqual(found, view(web, band, coins, messages))
                    self.assertEqual(found[3], sayings)

    def test_people_who_have_gone_and_people_who_came_later(self):
        room = helpers.example_room()
        self.assertEqual(room.people, ["ann", "bob", "dee"])
        self.assertEqual(room.seen(0, ["cy"])[0], ["cy"])
        self.assertIs(helpers.raised(room.seen, {"index": 0, "band": ["dee"]}), InvalidBand)
        self.assertIs(helpers.raised(room.seen, {"index": 2, "band": ["cy"]}), InvalidBand)
        self.assertEqual(room.seen(2, ["dee"]), (["dee"], {"dee": 9}, {("ann", "dee"): 1}, {"ann": 5, "bob": 7, "dee": 8}))

    def test_wrong_arguments(self):
        room = helpers.example_room()
        indexes = [thing for thing in helpers.junk() if not (type(thing) is int and thing in (0, 1, 2))]
        indexes += [3, 4, -1, -3, "0", [0], (0,), {0: 0}, 10 ** 40 - 1, False, True]
        web = room.talks[0][0]
        no_bands = [thing for thing in helpers.no_bands(web) if not helpers.is_band(web, thing)]
        before = helpers.frozen(room)
        helpers.check_errors(self, room.seen, {"index": 0, "band": ["cy"]},
                             [("index", InvalidIndex, indexes), ("band", InvalidBand, no_bands + [["ann", "dee"]])])
        self.assertEqual(helpers.frozen(room), before)
        empty = Room(5)
        for index in [0, -1, 1, None]:
            self.assertIs(helpers.raised(empty.seen, {"index": index, "band": []}), InvalidIndex)


class Known(unittest.TestCase):
    def check(self, room, right, band, weights):
        total, between = right.known(band, weights)
        found = answer(self, room.known, band, weights)
        self.assertIs(type(found), tuple)
        if not between:
            self.assertEqual(helpers.frozen(found), helpers.frozen((True, total)))
            return True
        self.assertIs(found[0], False)
        self.assertIn(helpers.frozen(found[1]), [helpers.frozen(coin) for coin in between])
        self.assertEqual(len(found), 2)
        return False

    def test_against_all_coins_gone_through(self):
        rng = random.Random("all coins")
        told = []
        for at in range(60):
            modulus = [2, 2, 3, 4, 3, 2][at % 6]
            room, right = busy_pair(rng, Room, modulus, TEN[:2 + at % 3], 6)
            names = sorted({person for people, *_ in right.talks() for person in people})
            for _ in range(4):
                band = rng.sample(names, rng.choice([0, 0, 1, 1, len(names)]))
                deals = [lists for _, lists in right.all_deals(band)]
                for _ in range(6):
                    weights = random_weights(rng, right)
                    sums = {sum(factors[person] * messages[person] for factors, messages in zip(weights, lists)
                                for person in factors) % modulus for lists in deals}
                    self.assertIs(self.check(room, right, band, weights), len(sums) == 1)
                    told.append(len(sums) == 1)
                    if len(sums) == 1:
                        self.assertEqual(room.known(band, weights), (True, sums.pop()))
        self.assertGreater(min(told.count(True), told.count(False)), 200)

    def test_large_rooms(self):
        rng = random.Random("large rooms")
        told = []
        for at in range(40):
            room, right = random_pair(rng, Room, rng.choice([2, 6, 97, 100]), TEN[:7], 90)
            names = sorted({person for people, *_ in right.talks() for person in people})
            for many in range(8):
                band = rng.sample(names, rng.choice([0, min(1, len(names)), min(3, len(names)), len(names)]))
                told.append(self.check(room, right, band, random_weights(rng, right, [None, 3, 1, 2][many % 4])))
        self.assertGreater(min(told.count(True), told.count(False)), 60)

    def room_of(self, *lines):
        """A room of a, b, c, d with all calls told as words; a talk is told by the messages as figures of a to d."""
        room, right = Room(6), PlainRoom(6)
        for line in ["join a", "join b", "join c", "join d"] + list(lines):
            word, *told = line.split(" ")
            if word == "tie":
                told[2] = int(told[2])
            if word == "talk":
                told = [dict(zip("abcd", map(int, told[0]))) if told else {}]
            make(room, word, told)
            right.call(word, *told)
        return room, right

    def test_a_coin_that_serves_several_talks(self):
        room, right = self.room_of("tie a b 3", "talk 1000", "tie c d 5", "talk 2000", "untie c d", "talk 3000")
        silent = {person: 0 for person in "abcd"}
        one, two, three, five = [{**silent, "a": number} for number in (1, 2, 3, 5)]
        for weights, sum_of in [([one, one, one], None), ([one, five, silent], 1 * 1 + 5 * 2), ([two, two, two], 12),
                                ([three, three, silent], 9), ([one, two, three], 14), ([three, silent, silent], None),
                                ([silent, silent, silent], 0), ([five, silent, one], 8), ([five, one, one], None)]:
            for band in [[], ["c"]]:
                found = room.known(band, weights)
                self.assertEqual(found, (False, (("a", "b"), 0)) if sum_of is None else (True, sum_of % 6))
            self.assertEqual(room.known(["b"], weights)[0], True)
        for band, index in [([], 1), (["a"], 1), (["d"], None)]:
            found = room.known(band, [silent, {**silent, "c": 1}, silent])
            self.assertEqual(found, (True, 0) if index is None else (False, (("c", "d"), 1)))
        self.assertEqual(right.served(), {(("a", "b"), 0): (3, [0, 1, 2]), (("c", "d"), 1): (5, [1])})

    def test_a_coin_laid_anew_serves_other_talks(self):
        silent = {person: 0 for person in "abcd"}
        one, five = {**silent, "a": 1}, {**silent, "a": 5}
        kept = self.room_of("tie a b 3", "talk 1000", "talk 2000")[0]
        self.assertEqual(kept.known([], [one, five]), (True, 5))
        for lines in [["tie a b 3"], ["tie b a 3"], ["tie a b 4"], ["untie a b", "tie a b 3"], ["leave a", "join a", "tie a b 3"],
                      ["leave b", "join b", "tie a b 3"]]:
            room, right = self.room_of("tie a b 3", "talk 1000", *lines, "talk 2000")
            self.assertEqual(room.known(["c"], [one, five])[0], False)
            self.assertEqual(set(right.served()), {(("a", "b"), 0), (("a", "b"), 1)})
            self.assertEqual(room.known(["c"], [one, silent]), (False, (("a", "b"), 0)))
            self.assertEqual(room.known(["c"], [silent, one]), (False, (("a", "b"), 1)))
            self.assertEqual(room.known(["a"], [one, five]), (True, 5))
            self.assertEqual(room.known(["b"], [one, five]), (True, 5))
        # A call that was taken back counts as never made.
        room = self.room_of("tie a b 3", "talk 1000", "tie a b 4")[0]
        room.undo()
        room.talk({"a": 2})
        self.assertEqual(room.known([], [one, five]), (True, 5))
        room = self.room_of("tie a b 3", "talk 1000", "tie a b 4", "talk 5555", "untie a b")[0]
        room.undo(steps=3)
        room.talk({"a": 2})
        self.assertEqual(room.known([], [one, five]), (True, 5))

    def test_coins_that_served_nothing_keep_nothing(self):
        silent = {person: 0 for person in "abcd"}
        room = self.room_of("tie a b 3", "untie a b", "talk 1234", "tie a b 3")[0]
        for person, number in zip("abcd", [1, 2, 3, 4]):
            self.assertEqual(room.known([], [{**silent, person: 1}]), (True, number))
        room.undo(steps=2)
        self.assertEqual(room.known([], []), (True, 0))

    def test_bands_of_people_who_have_gone(self):
        silent = {person: 0 for person in "abcd"}
        room = self.room_of("tie a b 3", "talk 1000", "leave b", "leave d")[0]
        one = [{**silent, "a": 1}]
        self.assertEqual([room.known(band, one)[0] for band in (["b"], ["a"], ["d"], ["c"], ["d", "b"])],
                         [True, True, False, False, True])
        room.join("b")
        room.join("e")
        self.assertEqual(room.known(["b"], one), (True, 1))
        self.assertIs(helpers.raised(room.known, {"band": ["e"], "weights": one}), InvalidBand)
        room.talk({})
        more = {person: 0 for person in "abce"}
        self.assertEqual(room.known(["e", "b"], one + [more]), (True, 1))
        room.undo()
        self.assertIs(helpers.raised(room.known, {"band": ["e"], "weights": one}), InvalidBand)
        room.undo(steps=5)
        self.assertEqual((room.talks, room.people), ([], ["a", "b", "c", "d"]))
        self.assertIs(helpers.raised(room.known, {"band": ["b"], "weights": []}), InvalidBand)
        self.assertEqual(room.known([], []), (True, 0))

    def test_a_coin_between_turns_what_is_not_known(self):
        rng = random.Random("turns")
        for _ in range(30):
            room, right = random_pair(rng, Room, rng.choice([2, 6, 100]), TEN[:5], 50)
            weights = random_weights(rng, right)
            known, told = room.known([], weights)
            if known:
                continue
            (one, other), _ = told
            talks, (_, indexes) = right.talks(), right.served()[told]
            more = [dict(messages) for _, _, messages, _ in talks]
            for index in indexes:
                more[index][one] -= 1
                more[index][other] += 1
                coins = {tie: number + (tie == told[0]) for tie, number in talks[index][1].items()}
                said = plain.say(Web(talks[index][0], list(coins), right.modulus), coins, more[index])
                self.assertEqual(said, talks[index][3])
            sums = [sum(factors[person] * messages[person] for factors, messages in zip(weights, lists) for person in factors)
                    % right.modulus for lists in (more, [messages for _, _, messages, _ in talks])]
            self.assertNotEqual(*sums)

    def test_wrong_arguments(self):
        room = helpers.example_room()
        weights = weights_of(room, 1)
        names = ["ann", "bob", "cy", "dee"]
        web = Web(names, [], 10)
        no_bands = helpers.no_bands(web) + [["eve"], ["ann", "bob", "ann"], ["dee", "dee"], ["ann", "zoe"], ("ann",)]
        no_weights = helpers.junk() + [[], weights[:2], weights + weights[:1], weights[::-1], tuple(weights), weights[0], [weights]]
        no_weights += [weights[:at] + [thing] + weights[at + 1:] for at in (0, 1, 2)
                       for thing in helpers.spoilt_dicts(weights[at], 10) + helpers.junk()
                       if not plain.gives_numbers(thing, list(weights[at]), 10)]
        before = helpers.frozen(room)
        helpers.check_errors(self, room.known, {"band": ["dee", "cy"], "weights": weights},
                             [("band", InvalidBand, no_bands), ("weights", InvalidWeights, no_weights)])
        self.assertEqual(helpers.frozen(room), before)
        for number in [-1, 10, 11, -10, 10 ** 39, -(10 ** 39), True, False, None, "1"]:
            for at in range(3):
                for person in weights[at]:
                    turned = [dict(factors) for factors in weights]
                    turned[at][person] = number
                    self.assertIs(helpers.raised(room.known, {"band": [], "weights": turned}), InvalidWeights)
        empty = Room(2)
        for thing in helpers.junk():
            right = type(thing) is list and thing == []
            self.assertIs(helpers.raised(empty.known, {"band": [], "weights": thing}), None if right else InvalidWeights)
            self.assertIs(helpers.raised(empty.known, {"band": thing, "weights": []}), None if right else InvalidBand)

    def test_half_the_modulus(self):
        for modulus in [2, 4, 10, 100]:
            room = Room(modulus)
            for name in "ab":
                room.join(name)
            room.tie("a", "b", 1)
            room.talk({"a": 1})
            room.talk({"b": 1})
            half = {"a": modulus // 2, "b": 0}
            self.assertEqual(room.known([], [half, half]), (True, modulus // 2))
            self.assertEqual(room.known([], [half, {"a": 0, "b": 0}]), (False, (("a", "b"), 0)))
            self.assertEqual(room.known([], [half, {"a": 0, "b": modulus // 2}]), (True, 0))


class Calls(unittest.TestCase):
    def test_who_is_let_in_and_who_goes(self):
        room = Room(5)
        for name in TEN[:8]:
            self.assertIsNone(room.join(name))
        for name in TEN[:8]:
            self.assertIs(helpers.raised(room.join, {"name": name}), NameIsTaken)
        for name in TEN[8:]:
            self.assertIs(helpers.raised(room.join, {"name": name}), TooMany)
            self.assertIs(helpers.raised(room.leave, {"name": name}), UnknownPerson)
        for name in ["", "Ann", "abcdefghi", None, ["ann"]]:
            self.assertIs(helpers.raised(room.join, {"name": name}), InvalidName)
        self.assertEqual((len(room), room.people), (8, sorted(TEN[:8])))
        room.leave("zz")
        room.join("kim")
        self.assertIs(helpers.raised(room.join, {"name": "zz"}), TooMany)
        self.assertEqual(len(room), 10)

    def test_one_who_goes_takes_all_ties_along(self):
        room = helpers.example_room()
        room.undo(steps=4)
        self.assertEqual(room.coins, {("ann", "bob"): 3, ("ann", "cy"): 4, ("bob", "cy"): 9})
        room.leave("cy")
        self.assertEqual(room.coins, {("ann", "bob"): 3})
        room.join("cy")
        self.assertEqual((room.coins, room.people), ({("ann", "bob"): 3}, ["ann", "bob", "cy"]))
        room.undo(steps=2)
        self.assertEqual(room.coins, {("ann", "bob"): 3, ("ann", "cy"): 4, ("bob", "cy"): 9})

    def test_the_coin_is_that_of_the_tie_with_the_lesser_name_first(self):
        for one, other in [("a", "b"), ("b", "a")]:
            room = Room(7)
            room.join("a")
            room.join("b")
            room.tie(one, other, 3)
            self.assertEqual(room.coins, {("a", "b"): 3})
            self.assertEqual(room.talk({}), {"a": 3, "b": 4})
            room.tie(other, one, 5)
            self.assertEqual(room.coins, {("a", "b"): 5})
            room.untie(one, other)
            self.assertEqual(room.coins, {})
            self.assertIs(helpers.raised(room.untie, {"one": other, "other": one}), NoTie)
            self.assertEqual(len(room), 6)

    def test_talks_of_some_all_and_nobody(self):
        room = Room(10)
        self.assertIs(helpers.raised(room.talk, {"messages": {}}), NobodyThere)
        for name in "abc":
            room.join(name)
        room.tie("a", "c", 4)
        for messages in [{}, {"a": 1}, {"b": 9, "a": 0}, {"a": 1, "b": 2, "c": 3}, {"c": 0}]:
            told = {**dict.fromkeys("abc", 0), **messages}
            found = answer(self, room.copy().talk, messages)
            self.assertEqual(found, {"a": (told["a"] + 4) % 10, "b": told["b"], "c": (told["c"] - 4) % 10})
            self.assertEqual(room.coins, {("a", "c"): 4})

    def test_wrong_arguments(self):
        room = helpers.example_room()
        there = ["ann", "bob", "dee"]
        before = helpers.frozen(room)
        no_names = [thing for thing in helpers.junk() if thing not in ("ann", "zoe", "abcdefgh")] + ["a1", "a b", "\n", "an\u00e4"]
        for error, names in [(InvalidName, no_names), (NameIsTaken, there)]:
            helpers.check_errors(self, Tried(room).join, {"name": "new"}, [("name", error, names)])
        for error, names in [(InvalidName, no_names), (UnknownPerson, ["cy", "zoe", "an", "annn"])]:
            helpers.check_errors(self, Tried(room).leave, {"name": "ann"}, [("name", error, names)])
        strangers = [thing for thing in helpers.junk() if thing not in there] + ["cy", "an"]
        numbers = [thing for thing in helpers.junk() if not (type(thing) is int and thing in range(10))]
        numbers += [-1, 10, True, False, "3", [3], (3,), {3: 3}]
        wrong = [("one", UnknownPerson, strangers), ("other", UnknownPerson, strangers)]
        helpers.check_errors(self, Tried(room).tie, {"one": "ann", "other": "bob", "coin": 3},
                             wrong + [("coin", InvalidNumber, numbers)])
        helpers.check_errors(self, Tried(room).tie, {"one": "ann", "other": "bob", "coin": 3},
                             wrong[:1] + [("other", SamePerson, ["ann"]), ("coin", InvalidNumber, numbers)])
        helpers.check_errors(self, Tried(room).untie, {"one": "ann", "other": "bob"}, wrong)
        helpers.check_errors(self, Tried(room).untie, {"one": "ann", "other": "bob"},
                             wrong[:1] + [("other", SamePerson, ["ann"])])
        self.assertIs(helpers.raised(room.untie, {"one": "bob", "other": "dee"}), NoTie)
        messages = [thing for thing in helpers.junk() + helpers.spoilt_dicts({"ann": 1, "bob": 0}, 10)
                    if not (type(thing) is dict and all(type(key) is str and key in there and type(thing[key]) is int
                                                        and thing[key] in range(10) for key in thing))]
        helpers.check_errors(self, Tried(room).talk, {"messages": {"ann": 1, "bob": 0}},
                             [("messages", InvalidMessages, messages + [{"cy": 1}, {"ann": 1, "cy": 0}])])
        steps = [thing for thing in helpers.junk() if not (type(thing) is int and thing >= 1)] + [0, -1, True, "1", [1]]
        helpers.check_errors(self, Tried(room).undo, {"steps": 1}, [("steps", InvalidNumber, steps)])
        helpers.check_errors(self, Tried(room).undo, {"steps": len(room)},
                             [("steps", NothingToUndo, [len(room) + 1, 1000, 10 ** 39])])
        self.assertEqual(helpers.frozen(room), before)

    def test_nobody_there_comes_first(self):
        room = Room(3)
        for thing in helpers.junk():
            self.assertIs(helpers.raised(room.talk, {"messages": thing}), NobodyThere)
            self.assertIs(helpers.raised(room.tie, {"one": thing, "other": thing, "coin": thing}), UnknownPerson)
            self.assertIs(helpers.raised(room.untie, {"one": thing, "other": thing}), UnknownPerson)
        self.assertIs(helpers.raised(room.web, {}), NobodyThere)
        self.assertEqual((room.people, room.coins, room.talks, len(room)), ([], {}, [], 0))

    def test_a_refused_call_changes_nothing_and_does_not_count(self):
        room = helpers.example_room()
        states = [helpers.frozen(room)]
        wrong = [(room.join, {"name": "ann"}), (room.join, {"name": 1}), (room.leave, {"name": "cy"}), (room.leave, {"name": []}),
                 (room.tie, {"one": "ann", "other": "cy", "coin": 1}), (room.tie, {"one": "ann", "other": "ann", "coin": 1}),
                 (room.tie, {"one": "ann", "other": "bob", "coin": 10}), (room.untie, {"one": "bob", "other": "dee"}),
                 (room.talk, {"messages": {"cy": 1}}), (room.talk, {"messages": {"ann": 10}}), (room.undo, {"steps": 0}),
                 (room.undo, {"steps": 99}), (room.seen, {"index": 3, "band": []}), (room.known, {"band": [], "weights": []})]
        for call, arguments in wrong:
            self.assertIsNotNone(helpers.raised(call, arguments))
            states.append(helpers.frozen(room))
        self.assertEqual(len(set(states)), 1)
        room.undo()
        self.assertEqual((len(room), len(room.talks)), (12, 2))

    def test_moduli(self):
        no_moduli = [thing for thing in helpers.junk() if not (type(thing) is int and 2 <= thing <= 100)]
        helpers.check_errors(self, Room, {"modulus": 5}, [("modulus", InvalidModulus, no_moduli + ["5", [5], 5 + 96])])
        for modulus in range(2, 101):
            room = Room(modulus)
            room.join("a")
            room.join("b")
            room.tie("a", "b", modulus - 1)
            self.assertEqual(room.talk({"b": modulus - 1}), {"a": modulus - 1, "b": 0})
            self.assertIs(helpers.raised(room.tie, {"one": "a", "other": "b", "coin": modulus}), InvalidNumber)

    def test_questions_change_nothing(self):
        room = helpers.example_room()
        before = helpers.frozen(room)
        for _ in range(3):
            room.web()
            room.seen(0, ["cy"])
            room.known([], weights_of(room, 1))
            room.known(["ann"], weights_of(room, 9))
            room.copy().undo()
            self.assertEqual(helpers.frozen(room), before)

    def test_names_of_parameters(self):
        self.assertEqual(str(inspect.signature(Room.undo)), "(self, *, steps=1)")
        room = Room(modulus=7)
        room.join(name="a")
        room.join(name="b")
        room.tie(coin=2, other="a", one="b")
        self.assertEqual(room.talk(messages={"a": 1}), {"a": 3, "b": 5})
        self.assertEqual(room.seen(band=["b"], index=0)[0], ["b"])
        self.assertEqual(room.known(weights=[{"a": 1, "b": 1}], band=[]), (True, 1))
        room.untie(other="b", one="a")
        room.leave(name="a")
        self.assertRaises(TypeError, room.undo, 1)
        room.undo(steps=2)
        self.assertEqual(room.coins, {("a", "b"): 2})

    def test_what_is_told_and_handed_in_is_apart(self):
        room = helpers.example_room()
        before = helpers.frozen(room)
        messages = {"ann": 1}
        sayings = room.talk(messages)
        after = helpers.frozen(room)
        messages.clear()
        sayings.clear()
        self.assertEqual(helpers.frozen(room), after)
        other = room.copy()
        for each in [*room.held(), *other.held()]:
            for part in each[1:]:
                part.clear()
        for each in [room.people, room.coins, room.talks, room.held(), room.web().people, *[sayings for _, sayings in room.talks],
                     *room.seen(0, ["ann"]), *[web.people for web, _ in other.talks]]:
            each.clear()
        self.assertEqual((helpers.frozen(room), helpers.frozen(other)), (after, after))
        self.assertTrue(helpers.all_new(room.people, room.people, room.coins, room.coins, room.talks, room.talks, other.talks,
                                        room.seen(0, ["cy"]), room.seen(0, ["cy"]), other.people, other.coins))
        room.undo()
        self.assertEqual(helpers.frozen(room), before)
        self.assertEqual(helpers.frozen(other), after)

    def test_keys_and_kinds(self):
        room = helpers.example_room()
        self.assertEqual([type(room.people), type(room.coins), type(room.talks), type(len(room))], [list, dict, list, int])
        for web, sayings in room.talks:
            self.assertEqual([type(web), type(sayings)], [Web, dict])
        self.assertTrue(all(type(tie) is tuple for tie in room.coins))
        self.assertEqual([web.people for web, _ in room.talks], [["ann", "bob", "cy"]] * 2 + [["ann", "bob", "dee"]])
        self.assertEqual(room.talks[0][0], Web(["ann", "bob", "cy"], [("ann", "bob"), ("bob", "cy")], 10))


class Tried:
    """Calls each on a copy of a room of their own, so that one that is right changes nothing for the next."""

    def __init__(self, room):
        self.room = room

    def join(self, **told):
        self.room.copy().join(**told)

    def leave(self, **told):
        self.room.copy().leave(**told)

    def tie(self, **told):
        self.room.copy().tie(**told)

    def untie(self, **told):
        self.room.copy().untie(**told)

    def talk(self, **told):
        self.room.copy().talk(**told)

    def undo(self, **told):
        self.room.copy().undo(**told)


if __name__ == "__main__":
    unittest.main()
