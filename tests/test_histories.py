"""Whole histories: promise 22, and 2 as far as it is about them."""

import itertools
import random
import unittest

from hushweb.errors import InvalidBand, InvalidMessages
from hushweb.histories import against, bears_all, deal_of, deals_all, may_all, served, speaks_against
from hushweb.room import Room
from hushweb.webs import Web
from tests import helpers, plain
from tests.helpers import answer
from tests.plain_room import GROWING, PlainRoom, busy_pair, make, random_pair

FEW = ["a", "b", "c", "d"]


def true_lists(right):
    return [dict(messages) for _, _, messages, _ in right.talks()]


def names_of(right):
    return sorted({person for people, *_ in right.talks() for person in people})


def changed(rng, right, lists):
    """Lists that were moved within a talk, between talks, drawn, or left as they are."""
    lists = [dict(messages) for messages in lists]
    if not lists:
        return lists
    kind = rng.randrange(6)
    modulus = right.modulus
    by = rng.choice([rng.randrange(modulus), modulus // 2, 1])
    at, further = rng.randrange(len(lists)), rng.randrange(len(lists))
    one, other = rng.choice(sorted(lists[at])), rng.choice(sorted(lists[at]))
    if kind in (1, 2):
        lists[at][one] = (lists[at][one] + by) % modulus
        lists[at][other] = (lists[at][other] - by) % modulus
    if kind == 2 and one in lists[further] and other in lists[further]:
        lists[further][one] = (lists[further][one] - by) % modulus
        lists[further][other] = (lists[further][other] + by) % modulus
    if kind == 3 and one in lists[further]:
        lists[at][one], lists[further][one] = lists[further][one], lists[at][one]
    if kind == 4:
        lists[at][one] = (lists[at][one] + by) % modulus
    if kind == 5:
        lists = [helpers.random_numbers(rng, messages, modulus) for messages in lists]
    return lists


def turned_deal(right, rng, lists):
    """Lists that a deal with one coin turned gives; they are possible if nobody in the band has the coin."""
    lists = [dict(messages) for messages in lists]
    coins = right.served()
    if not coins:
        return lists
    (one, other), first = rng.choice(sorted(coins))
    by = rng.randrange(1, right.modulus)
    for index in coins[((one, other), first)][1]:
        lists[index][one] = (lists[index][one] - by) % right.modulus
        lists[index][other] = (lists[index][other] + by) % right.modulus
    return lists


def plain_bears(right, band, lists, thing):
    """Whether an object is a deal that bears lists, by the words of the document."""
    coins = right.served()
    if type(thing) is not dict or len(thing) != len(coins):
        return False
    if sorted(map(repr, thing)) != sorted(map(repr, coins)):
        return False
    if not all(type(number) is int and number in range(right.modulus) for number in thing.values()):
        return False
    if any(thing[coin] != coins[coin][0] for coin in coins if set(coin[0]) & set(band)):
        return False
    for index, (people, _, messages, sayings) in enumerate(right.talks()):
        lying = {coin[0]: thing[coin] for coin in coins if index in coins[coin][1]}
        if plain.say(Web(people, list(lying), right.modulus), lying, lists[index]) != sayings:
            return False
        if any(messages[person] != lists[index][person] for person in people if person in band):
            return False
    return True


def plain_speaks(right, band, lists, thing):
    """Whether an object are weights of which the band knows the sum, and by which the lists come to another one."""
    talks = right.talks()
    if type(thing) is not list or len(thing) != len(talks):
        return False
    if not all(plain.gives_numbers(factors, people, right.modulus) for factors, (people, *_) in zip(thing, talks)):
        return False
    total, _ = right.known(band, thing)
    if total is None:
        return False
    return total != sum(factors[person] * messages[person] for factors, messages in zip(thing, lists)
                        for person in factors) % right.modulus


def words_room(modulus, lines):
    """A room and a plain one of a, b, c, d after calls told as words; a talk is told by figures of a to d, "." for none."""
    room, right = Room(modulus), PlainRoom(modulus)
    for line in ["join a", "join b", "join c", "join d"] + lines:
        word, *told = line.split(" ")
        if word == "tie":
            told[2] = int(told[2])
        if word == "talk":
            told = [{person: int(figure) for person, figure in zip("abcd", told[0]) if figure != "."}]
        make(room, word, told)
        right.call(word, *told)
    return room, right


class Checks(unittest.TestCase):
    def check(self, room, right, band, lists, many=None):
        """Ask all of one band and lists; many is how many deals bear them, where that is known."""
        found, weights = deal_of(room, band, lists), against(room, band, lists)
        self.assertNotEqual(found is None, weights is None)
        possible = found is not None
        self.assertIs(may_all(room, band, lists), possible)
        told = deals_all(room, band, lists)
        self.assertIs(type(told), int)
        self.assertEqual(told > 0, possible)
        if many is not None:
            self.assertEqual(told, many)
        if possible:
            self.assertIs(plain_bears(right, band, lists, found), True)
            self.assertIs(bears_all(room, band, lists, found), True)
            self.assertIs(speaks_against(room, band, lists, lists), plain_speaks(right, band, lists, lists))
        else:
            self.assertIs(plain_speaks(right, band, lists, weights), True)
            self.assertIs(speaks_against(room, band, lists, weights), True)
            known, total = room.known(band, weights)
            self.assertIs(known, True)
            self.assertEqual(total, right.known(band, weights)[0])
            deal = {coin: number for coin, (number, _) in right.served().items()}
            self.assertIs(bears_all(room, band, lists, deal), False)
        return possible


class AllDeals(Checks):
    def small(self, seed, many, moduli):
        """Small rooms, such that all deals can be gone through, each with bands of all kinds."""
        rng = random.Random(seed)
        for at in range(many):
            modulus = moduli[at % len(moduli)]
            room, right = busy_pair(rng, Room, modulus, FEW[:rng.choice([2, 3, 4])], {2: 9, 3: 6, 4: 5, 6: 4}[modulus])
            names = names_of(right)
            bands = [[], rng.sample(names, 1), rng.sample(names, len(names)), rng.sample(names, rng.randrange(len(names) + 1))]
            for band in bands:
                yield rng, room, right, band

    def test_against_all_deals(self):
        told, gone = [], 0
        for rng, room, right, band in self.small("all deals", 70, [2, 3, 4, 6]):
            borne = right.all_borne(band)
            self.assertEqual(len(set(borne.values())), 1)
            gone += any(person not in right.people() for person in band)
            lists = [true_lists(right)]
            for _ in range(8):
                lists.append(changed(rng, right, rng.choice(lists)))
            lists += [turned_deal(right, rng, rng.choice(lists)) for _ in range(4)]
            for each in lists:
                told.append(self.check(room, right, band, each, borne[right.rows(each)]))
        self.assertGreater(min(told.count(True), told.count(False)), 500)
        self.assertGreater(gone, 20)

    def test_all_lists_of_very_small_rooms(self):
        rng = random.Random("all lists")
        for at in range(12):
            modulus = [2, 3, 2][at % 3]
            while True:
                room, right = random_pair(rng, Room, modulus, FEW[:3], 14, GROWING)
                parts = [len(people) for people, *_ in right.talks()]
                if len(right.served()) <= 5 and parts and sum(parts) <= (8 if modulus == 2 else 5):
                    break
            for band in [[], names_of(right)[:1]]:
                borne = right.all_borne(band)
                keys = [(index, person) for index, (people, *_) in enumerate(right.talks()) for person in people]
                for numbers in itertools.product(range(modulus), repeat=len(keys)):
                    lists = [{} for _ in parts]
                    for (index, person), number in zip(keys, numbers):
                        lists[index][person] = number
                    self.check(room, right, band, lists, borne[right.rows(lists)])

    def test_which_deals_bear(self):
        told = []
        for rng, room, right, band in self.small("which deals", 24, [2, 3, 4]):
            lists = rng.choice([changed, lambda _, *told: turned_deal(right, rng, told[1])])(rng, right, true_lists(right))
            coins = right.served()
            many = 0
            for deal, given in right.all_deals(band):
                borne = given == lists
                many += borne
                if borne or rng.random() < 0.2:
                    told.append(bears_all(room, band, lists, deal))
                    self.assertIs(told[-1], borne)
            for _ in range(10):
                deal = {coin: rng.randrange(right.modulus) for coin in coins}
                self.assertIs(bears_all(room, band, lists, deal), plain_bears(right, band, lists, deal))
            if all(messages[person] == given[person] for messages, given in zip(lists, true_lists(right))
                   for person in messages if person in band):
                self.assertEqual(deals_all(room, band, lists), many)
        self.assertGreater(min(told.count(True), told.count(False)), 30)

    def test_which_weights_speak_against(self):
        told = []
        for rng, room, right, band in self.small("weights", 40, [2, 3, 4, 6]):
            lists = changed(rng, right, true_lists(right))
            for _ in range(6):
                weights = [helpers.random_numbers(rng, messages, right.modulus) for messages in lists]
                if rng.random() < 0.7:
                    number = rng.randrange(right.modulus)
                    weights = [{person: number if rng.random() < 0.9 else 0 for person in messages} for messages in lists]
                speaks = plain_speaks(right, band, lists, weights)
                told.append(speaks)
                self.assertIs(speaks_against(room, band, lists, weights), speaks)
        self.assertGreater(min(told.count(True), told.count(False)), 100)


class NoPower(Checks):
    def test_numbers_of_deals_that_are_no_power_of_the_modulus(self):
        rng = random.Random("no power")
        chain = ["tie a b 1", "tie a c 2", "tie b d 3", "tie c d 1", "talk 1.2.", "untie a c", "untie b d", "tie a d 2", "tie b c 1"]
        for modulus in [4, 6]:
            room, right = words_room(modulus, chain + ["talk .3.1"])
            borne = right.all_borne([])
            self.assertEqual(set(borne.values()), {2})
            true = true_lists(right)
            self.check(room, right, [], true, 2)
            for _ in range(60):
                lists = rng.choice([changed(rng, right, true), turned_deal(right, rng, true)])
                self.check(room, right, [], lists, borne[right.rows(lists)])
        for band, many in [(["a"], 1), (["d", "b"], 1)]:
            room, right = words_room(6, chain + ["talk 0000"])
            self.assertEqual(set(right.all_borne(band).values()), {many})
            self.check(room, right, band, true_lists(right), many)

    def test_more_ties_than_a_ring_wants(self):
        # All four are tied to all while some ties change: the coins that stay serve webs of several kinds.
        lines = ["tie a b 1", "tie a c 0", "tie a d 1", "tie b c 1", "tie b d 0", "tie c d 1", "talk 1000"]
        more = [["untie a b", "untie c d", "talk 0100"], ["untie a c", "untie b d", "talk 0011"], ["tie a b 0", "talk 1111"]]
        found = set()
        for kept in itertools.product([0, 1], repeat=3):
            room, right = words_room(2, lines + [line for keep, part in zip(kept, more) if keep for line in part])
            for band in [[], ["a"], ["b", "d"]]:
                borne = right.all_borne(band)
                true = true_lists(right)
                self.check(room, right, band, true, borne[right.rows(true)])
                found.add(borne[right.rows(true)])
        self.assertGreaterEqual(len(found), 3)

    def test_talks_by_turns_in_two_rings(self):
        # Two coins stay, the two others are laid anew for each talk: round one ring in some talks, round another in others.
        rng = random.Random("by turns")
        for modulus, many in [(4, 3), (6, 2), (12, 5), (100, 9), (97, 5)]:
            room, right = Room(modulus), PlainRoom(modulus)
            calls = [("join", name) for name in FEW] + [("tie", "a", "b", 1), ("tie", "c", "d", modulus - 1)]
            for at in range(many):
                new, old = [("ac", "bd"), ("ad", "bc")][::1 if at % 2 else -1]
                calls += [("untie", *pair) for pair in old if at] + [("tie", *pair, rng.randrange(modulus)) for pair in new]
                calls.append(("talk", helpers.random_numbers(rng, FEW, modulus)))
            for word, *told in calls:
                make(room, word, told)
                right.call(word, *told)
            true = true_lists(right)
            deals = 2 if modulus % 2 == 0 else 1
            self.check(room, right, [], true, deals)
            self.check(room, right, ["b"], true, 1)
            for _ in range(40):
                self.check(room, right, [], changed(rng, right, true))
                self.check(room, right, [], turned_deal(right, rng, true), deals)

    def test_half_the_modulus_goes_round(self):
        for modulus in [2, 4, 6, 100, 3, 97]:
            room = Room(modulus)
            for name in "abcd":
                room.join(name)
            for one, other in ["ab", "ac", "bd", "cd"]:
                room.tie(one, other, 1)
            room.talk({})
            room.untie("a", "c")
            room.untie("b", "d")
            room.tie("a", "d", 1)
            room.tie("b", "c", 1)
            room.talk({})
            silent = {person: 0 for person in "abcd"}
            self.assertEqual(deals_all(room, [], [silent, silent]), 2 if modulus % 2 == 0 else 1)
            half = {**silent, "a": modulus // 2, "b": modulus - modulus // 2}
            # Half the modulus times half the modulus is a multiple of it just for multiples of four.
            self.assertIs(may_all(room, [], [half, silent]), modulus % 4 != 2)
            if modulus % 2 == 0:
                weights = against(room, [], [{**silent, "a": 1, "b": modulus - 1}, silent])
                self.assertTrue(all(factor in (0, modulus // 2) for each in weights for factor in
                                    [(each[one] - each["a"]) % modulus for one in each]))
                self.assertIs(speaks_against(room, [], [half, silent], weights), modulus % 4 == 2)


class LargeRooms(Checks):
    def test_rooms_of_up_to_sixteen_calls_behind_the_people(self):
        rng = random.Random("sixteen")
        told = []
        for at in range(160):
            modulus = rng.choice([2, 4, 6, 12, 30, 36, 60, 64, 72, 96, 97, 100])
            room, right = Room(modulus), PlainRoom(modulus)
            for name in FEW:
                room.join(name)
                right.call("join", name)
            while len(right.calls) < 20:
                word = rng.choices(["tie", "untie", "talk"], [7, 1, 3])[0]
                pair = rng.sample(FEW, 2)
                told_by = {"tie": [*pair, rng.randrange(modulus)], "untie": pair,
                           "talk": [helpers.random_numbers(rng, FEW, modulus)]}[word]
                if right.error(word, *told_by) is None:
                    make(room, word, told_by)
                    right.call(word, *told_by)
            band = rng.sample(names_of(right), rng.choice([0, 0, 1]) if right.talks() else 0)
            lists = [true_lists(right)]
            for _ in range(3):
                lists.append(turned_deal(right, rng, rng.choice(lists)))
                lists.append(changed(rng, right, rng.choice(lists)))
            known = [self.check(room, right, band, each) for each in lists]
            self.assertIs(known[0], True)
            told += known
            many = {deals_all(room, band, each) for each, possible in zip(lists, known) if possible}
            self.assertEqual(len(many), 1)
        self.assertGreater(min(told.count(True), told.count(False)), 200)

    def test_large_rooms(self):
        rng = random.Random("large")
        told = []
        for at in range(14):
            modulus = rng.choice([2, 6, 64, 97, 100])
            while True:
                room, right = random_pair(rng, Room, modulus, list("abcdefgh"), 80, {**GROWING, "join": 3, "leave": 0.3})
                if len(right.served()) <= 60:
                    break
            names = names_of(right)
            band = rng.sample(names, min(len(names), rng.choice([0, 1, 2])))
            lists = [true_lists(right)]
            for _ in range(3):
                lists.append(turned_deal(right, rng, rng.choice(lists)))
                lists.append(changed(rng, right, rng.choice(lists)))
            told += [self.check(room, right, band, each) for each in lists]
        self.assertGreater(min(told.count(True), told.count(False)), 20)

    def test_known_sums_of_possible_lists_are_the_true_ones(self):
        rng = random.Random("sums")
        for _ in range(30):
            room, right = random_pair(rng, Room, 12, FEW, 24)
            true = true_lists(right)
            lists = turned_deal(right, rng, turned_deal(right, rng, true))
            if may_all(room, [], lists):
                for _ in range(6):
                    number = rng.randrange(12)
                    self.assertIs(speaks_against(room, [], lists, [{one: number for one in each} for each in lists]), False)


class Named(Checks):
    def test_no_talks(self):
        room = Room(5)
        for _ in range(2):
            self.assertEqual((served(room), may_all(room, [], []), deals_all(room, [], []), deal_of(room, [], []),
                              against(room, [], [])), ([], True, 1, {}, None))
            self.assertIs(bears_all(room, [], [], {}), True)
            self.assertIs(speaks_against(room, [], [], []), False)
            for thing in [None, [], (), {"a": 1}, {(("a", "b"), 0): 1}]:
                self.assertIs(bears_all(room, [], [], thing), False)
            for thing in [None, {}, (), [{}], [{"a": 1}]]:
                self.assertIs(speaks_against(room, [], [], thing), False)
            self.assertIs(helpers.raised(may_all, {"room": room, "band": ["a"], "lists": []}), InvalidBand)
            self.assertIs(helpers.raised(may_all, {"room": room, "band": [], "lists": [{}]}), InvalidMessages)
            room.join("a")
            room.join("b")
            room.tie("a", "b", 3)
            room.talk({"a": 1})
            room.undo(steps=4)

    def test_talks_without_ties(self):
        room, right = words_room(5, ["talk 1234", "talk ...."])
        self.assertEqual((served(room), deals_all(room, [], true_lists(right)), deal_of(room, [], true_lists(right))), ([], 1, {}))
        for index, person in itertools.product((0, 1), "abcd"):
            lists = true_lists(right)
            lists[index][person] = (lists[index][person] + 1) % 5
            self.check(room, right, [], lists, 0)

    def test_coins_laid_anew_taken_away_and_calls_taken_back(self):
        lines = ["tie a b 3", "talk 1...", "tie a b 3", "talk 2...", "untie a b", "talk 3...", "tie a b 4", "talk 4..."]
        room, right = words_room(5, lines)
        self.assertEqual(served(room), [(("a", "b"), 0), (("a", "b"), 1), (("a", "b"), 3)])
        self.assertEqual(deal_of(room, ["a"], true_lists(right)), {(("a", "b"), 0): 3, (("a", "b"), 1): 3, (("a", "b"), 3): 4})
        silent = {person: 0 for person in "abcd"}
        lists = [{**silent, "b": 1}, {**silent, "a": 2}, {**silent, "a": 3}, {**silent, "b": 4}]
        self.check(room, right, [], lists, 1)
        self.check(room, right, ["c"], lists, 1)
        self.check(room, right, ["a"], lists, 0)
        self.check(room, right, [], [lists[0], lists[1], {**silent, "b": 3}, lists[3]], 0)
        room.undo(steps=6)
        room.talk({"a": 2})
        self.assertEqual(served(room), [(("a", "b"), 0)])
        self.assertIs(may_all(room, [], lists[:2]), False)
        self.assertIs(may_all(room, [], [{**silent, "b": 1}, {**silent, "b": 1, "a": 1}]), True)

    def test_the_messages_of_a_band_are_its_own(self):
        room, right = words_room(7, ["tie a b 3", "tie b c 2", "talk 1234", "leave a", "talk .222"])
        for band in [["a"], ["b"], ["a", "d"], ["d", "c", "b", "a"]]:
            for index, (people, *_) in enumerate(right.talks()):
                for person in people:
                    lists = true_lists(right)
                    lists[index][person] = 0
                    other = next(one for one in people if one != person)
                    lists[index][other] = (lists[index][other] + right.talks()[index][2][person]) % 7
                    possible = self.check(room, right, band, lists)
                    self.assertIs(possible, bool(plain_bears(right, band, lists, deal_of(room, band, lists))))
                    if person in band:
                        self.assertIs(possible, False)

    def test_people_who_come_again_under_the_same_name(self):
        lines = ["tie a b 1", "talk 1...", "leave a", "join a", "tie a b 1", "talk 1..."]
        room, right = words_room(3, lines)
        self.assertEqual(served(room), [(("a", "b"), 0), (("a", "b"), 1)])
        silent = {person: 0 for person in "abcd"}
        moved = [{**silent, "b": 1}, {**silent, "a": 1}]
        self.check(room, right, [], moved, 1)
        self.check(room, right, ["b"], moved, 0)
        self.check(room, right, ["a"], moved, 0)

    def test_served(self):
        rng = random.Random("served")
        for _ in range(30):
            room, right = random_pair(rng, Room, 6, FEW, 40)
            self.assertEqual(helpers.frozen(answer(self, served, room)), helpers.frozen(sorted(right.served())))


class Judged(Checks):
    def room(self):
        room, right = words_room(10, ["tie a b 3", "tie b c 4", "tie a c 1", "talk 1234", "tie a b 3", "untie b c", "talk 4321"])
        self.assertEqual(served(room), [(("a", "b"), 0), (("a", "b"), 1), (("a", "c"), 0), (("b", "c"), 0)])
        return room, right, true_lists(right)

    def test_deals_with_something_turned(self):
        room, right, lists = self.room()
        deal = {coin: number for coin, (number, _) in right.served().items()}
        for band in [[], ["a"], ["d"], ["c", "b"]]:
            self.assertIs(bears_all(room, band, lists, deal), True)
            self.assertIs(bears_all(room, band, lists, dict(reversed(deal.items()))), True)
            things = helpers.junk() + [list(deal.items()), tuple(deal.items()), [deal], (deal,), list(deal), lists]
            things += [{tie: number for (tie, index), number in deal.items()}, {}, {**deal, (("a", "d"), 0): 0}]
            for coin in deal:
                tie, index = coin
                left = {other: deal[other] for other in deal if other != coin}
                things.append(left)
                things += [{**deal, coin: number} for number in [-1, 10, (deal[coin] + 1) % 10, True, False, None, "3", [3], (3,)]]
                things += [{**left, (tie, other): deal[coin]} for other in [2, -1, bool(index), str(index), None, (index,)]]
                things += [{**left, key: deal[coin]} for key in [(tie[::-1], index), (index, tie), tie, (tie,), (*tie, index),
                                                                 (tie, index, index), index, "-".join(tie), (("a", "zoe"), 0)]]
            for thing in things:
                before = helpers.frozen(thing)
                self.assertIs(bears_all(room, band, lists, thing), plain_bears(right, band, lists, thing), thing)
                self.assertEqual(helpers.frozen(thing), before)
        swapped = {**deal, (("a", "b"), 0): 4, (("a", "b"), 1): 3}
        self.assertIs(bears_all(room, [], lists, swapped), False)

    def test_an_index_that_is_a_bool(self):
        room, right, lists = self.room()
        deal = {coin: number for coin, (number, _) in right.served().items()}
        for index in (0, 1):
            turned = {(tie, bool(at) if at == index else at): number for (tie, at), number in deal.items()}
            self.assertEqual(turned, deal)
            self.assertIs(bears_all(room, [], lists, turned), False)

    def test_coins_of_the_band_are_what_they_are(self):
        room, right = words_room(5, ["tie a b 1", "tie b c 2", "tie a c 3", "talk 0000"])
        lists = true_lists(right)
        deal = {(("a", "b"), 0): 2, (("b", "c"), 0): 3, (("a", "c"), 0): 2}
        for band in [[], ["d"]]:
            self.assertIs(bears_all(room, band, lists, deal), True)
        for band in [["a"], ["b"], ["c"], ["d", "a"]]:
            self.assertIs(bears_all(room, band, lists, deal), False)

    def test_weights_with_something_turned(self):
        room, right, lists = self.room()
        lists[0]["a"] = (lists[0]["a"] + 1) % 10
        lists[1]["d"] = (lists[1]["d"] + 5) % 10
        for band in [[], ["a"], ["d"], ["b", "c"]]:
            weights = against(room, band, lists)
            self.assertIs(speaks_against(room, band, lists, weights), True)
            zero = [{person: 0 for person in "abcd"} for _ in lists]
            things = helpers.junk() + [zero, weights[:1], weights + weights[:1], weights + zero, tuple(weights), [weights], weights[0],
                                       [], [tuple(each.items()) for each in weights], [list(each.values()) for each in weights]]
            things += [[{person: number for person in "abcd"}] * 2 for number in range(10)]
            for at in (0, 1):
                for thing in helpers.spoilt_dicts(weights[at], 10) + helpers.junk():
                    things.append(weights[:at] + [thing] + weights[at + 1:])
                for person in weights[at]:
                    for number in [weights[at][person] + 10, weights[at][person] - 10, 10 ** 39, -(10 ** 39), True, False]:
                        things.append(weights[:at] + [{**weights[at], person: number}] + weights[at + 1:])
                    for number in range(10):
                        things.append(weights[:at] + [{**weights[at], person: number}] + weights[at + 1:])
            told = []
            for thing in things:
                before = helpers.frozen(thing)
                told.append(plain_speaks(right, band, lists, thing))
                self.assertIs(speaks_against(room, band, lists, thing), told[-1], thing)
                self.assertEqual(helpers.frozen(thing), before)
            self.assertGreater(told.count(True), 5)

    def test_known_weights_that_come_to_the_same_sum(self):
        room, right, lists = self.room()
        ones = [{person: 1 for person in "abcd"}] * 2
        first = [ones[0], {person: 0 for person in "abcd"}]
        self.assertIs(speaks_against(room, [], lists, ones), False)
        moved = [{**lists[0], "a": (lists[0]["a"] + 3) % 10}, {**lists[1], "a": (lists[1]["a"] - 3) % 10}]
        self.assertIs(may_all(room, [], moved), False)
        self.assertIs(speaks_against(room, [], moved, ones), False)
        self.assertIs(speaks_against(room, [], moved, first), True)
        known = [{"a": 0, "b": 0, "c": 0, "d": 1}, {person: 0 for person in "abcd"}]
        self.assertIs(speaks_against(room, [], moved, known), False)


class Wrong(unittest.TestCase):
    def test_wrong_arguments(self):
        room = helpers.example_room()
        lists = [room.seen(index, web.people)[1] for index, (web, _) in enumerate(room.talks)]
        names = Web(["ann", "bob", "cy", "dee"], [], 10)
        no_bands = helpers.no_bands(names) + [["eve"], ["ann", "bob", "ann"], ("ann",), ["dee", "zoe"]]
        no_lists = helpers.junk() + [[], lists[:2], lists + lists[:1], lists[::-1], tuple(lists), lists[0], [lists]]
        no_lists += [lists[:at] + [thing] + lists[at + 1:] for at in (0, 1, 2)
                     for thing in helpers.spoilt_dicts(lists[at], 10) + helpers.junk()
                     if not plain.gives_numbers(thing, list(lists[at]), 10)]
        wrong = [("band", InvalidBand, no_bands), ("lists", InvalidMessages, no_lists)]
        before = helpers.frozen(room)
        for call in [may_all, deals_all, deal_of, against]:
            helpers.check_errors(self, lambda band, lists, call=call: call(room, band, lists),
                                 {"band": ["dee", "cy"], "lists": lists}, wrong)
        for call in [bears_all, speaks_against]:
            for thing in [None, lists, {}]:
                helpers.check_errors(self, lambda band, lists, call=call, thing=thing: call(room, band, lists, thing),
                                     {"band": ["dee", "cy"], "lists": lists}, wrong)
        self.assertEqual(helpers.frozen(room), before)

    def test_rooms_and_arguments_stay_as_they_are(self):
        rng = random.Random("stay")
        for at in range(12):
            room, right = random_pair(rng, Room, rng.choice([3, 10]), FEW, 26)
            band = rng.sample(names_of(right), min(1, len(names_of(right))))
            true = true_lists(right)
            for lists in [true, changed(rng, right, true)]:
                before = helpers.frozen(room)
                for call in [may_all, deals_all, deal_of, against]:
                    answer(self, call, room, band, lists)
                deal, weights = deal_of(room, band, lists), against(room, band, lists)
                answer(self, bears_all, room, band, lists, deal)
                answer(self, speaks_against, room, band, lists, weights)
                self.assertEqual(helpers.frozen(room), before)
                for _ in range(3):
                    self.assertEqual(helpers.frozen(room.copy()), before)

    def test_weights_told_stand_once(self):
        room, right = words_room(5, ["talk 1234"] * 4)
        weights = against(room, [], [{person: 0 for person in "abcd"}] * 4)
        self.assertTrue(helpers.all_new(weights))
        self.assertEqual(len(weights), 4)

    def test_all_parameters_by_name(self):
        room, right = words_room(5, ["tie a b 1", "talk 1..."])
        lists = true_lists(right)
        moved = [{"a": 0, "b": 1, "c": 0, "d": 0}]
        wrong = [{"a": 0, "b": 0, "c": 1, "d": 0}]
        self.assertEqual(served(room=room), [(("a", "b"), 0)])
        self.assertIs(may_all(lists=moved, band=["c"], room=room), True)
        self.assertEqual(deals_all(lists=moved, band=[], room=room), 1)
        self.assertEqual(deal_of(lists=moved, band=[], room=room), {(("a", "b"), 0): 2})
        self.assertIsNone(against(lists=lists, band=[], room=room))
        self.assertIs(bears_all(thing={(("a", "b"), 0): 2}, lists=moved, band=[], room=room), True)
        weights = against(lists=wrong, band=[], room=room)
        self.assertIs(speaks_against(thing=weights, lists=wrong, band=[], room=room), True)


if __name__ == "__main__":
    unittest.main()
