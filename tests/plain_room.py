"""The words of the document about rooms and histories, read plainly: the calls that stand are gone through anew each time."""

import itertools
from collections import Counter

from hushweb import errors
from tests import plain

LETTERS = "abcdefghijklmnopqrstuvwxyz"


def is_name(thing):
    return type(thing) is str and 1 <= len(thing) <= 8 and all(letter in LETTERS for letter in thing)


class PlainRoom:
    """Remembers the calls that stand; each one is a tuple of a word and arguments."""

    def __init__(self, modulus):
        self.modulus = modulus
        self.calls = []

    def copy(self):
        other = PlainRoom(self.modulus)
        other.calls = list(self.calls)
        return other

    def gone_through(self):
        """The people, the coins as tuples (number, call), and the talks as tuples (people, coins, messages)."""
        people, laid, talks = set(), {}, []
        for at, (word, *told) in enumerate(self.calls):
            if word == "join":
                people.add(told[0])
            elif word == "leave":
                people.remove(told[0])
                laid = {tie: coin for tie, coin in laid.items() if told[0] not in tie}
            elif word == "tie":
                laid = {**laid, tuple(sorted(told[:2])): (told[2], at)}
            elif word == "untie":
                laid = {tie: coin for tie, coin in laid.items() if tie != tuple(sorted(told[:2]))}
            else:
                talks.append((sorted(people), laid, {person: told[0].get(person, 0) for person in people}))
        return people, laid, talks

    def error(self, word, *told):
        """The error that a call has to raise, or None."""
        people, laid, talks = self.gone_through()
        here = [person for person in people]
        if word in ("join", "leave"):
            if not is_name(told[0]):
                return errors.InvalidName
            if word == "leave":
                return None if told[0] in here else errors.UnknownPerson
            return errors.NameIsTaken if told[0] in here else errors.TooMany if len(here) >= 8 else None
        if word in ("tie", "untie"):
            if told[0] not in here or told[1] not in here:
                return errors.UnknownPerson
            if told[0] == told[1]:
                return errors.SamePerson
            if word == "untie":
                return None if tuple(sorted(told)) in laid else errors.NoTie
            return None if type(told[2]) is int and told[2] in range(self.modulus) else errors.InvalidNumber
        if word == "undo":
            if type(told[0]) is not int or told[0] < 1:
                return errors.InvalidNumber
            return errors.NothingToUndo if told[0] > len(self.calls) else None
        if not here:
            return errors.NobodyThere
        messages = told[0]
        if type(messages) is dict and plain.gives_numbers(messages, [one for one in here if one in messages], self.modulus):
            return None
        return errors.InvalidMessages

    def call(self, word, *told):
        """Make a call that is right."""
        if word == "undo":
            del self.calls[len(self.calls) - told[0]:]
        else:
            self.calls.append((word, *told))

    def people(self):
        return sorted(self.gone_through()[0])

    def coins(self):
        return {tie: number for tie, (number, _) in self.gone_through()[1].items()}

    def talks(self):
        """The talks that stand as tuples (people, coins, messages, sayings)."""
        out = []
        for people, laid, messages in self.gone_through()[2]:
            said = dict(messages)
            for (one, other), (number, _) in laid.items():
                said[one] += number
                said[other] -= number
            out.append((people, {tie: number for tie, (number, _) in laid.items()}, messages,
                        {person: said[person] % self.modulus for person in people}))
        return out

    def served(self):
        """The coins that served: a dict from (tie, first index) to (number, the indexes of the talks)."""
        indexes = {}
        for index, (_, laid, _) in enumerate(self.gone_through()[2]):
            for tie, (number, call) in laid.items():
                indexes.setdefault((tie, number, call), []).append(index)
        return {(tie, found[0]): (number, found) for (tie, number, _), found in indexes.items()}

    def known(self, band, weights):
        """The sum, or None, and the coins for which the condition fails."""
        between = []
        for ((one, other), index), (_, indexes) in self.served().items():
            first = sum(weights[at][one] for at in indexes)
            second = sum(weights[at][other] for at in indexes)
            if one not in band and other not in band and first % self.modulus != second % self.modulus:
                between.append(((one, other), index))
        total = sum(factor * messages[person] for factors, (_, _, messages, _) in zip(weights, self.talks())
                    for person, factor in factors.items())
        return (total % self.modulus if not between else None), between

    def rows(self, lists):
        return tuple(tuple(messages[person] for person in people)
                     for messages, (people, *_) in zip(lists, self.talks()))

    def all_deals(self, band):
        """All deals in which the coins of a band are what they are, one by one, each with the lists that it gives."""
        served, talks = self.served(), self.talks()
        closed = [coin for coin in sorted(served) if not set(coin[0]) & set(band)]
        for numbers in itertools.product(range(self.modulus), repeat=len(closed)):
            deal = {**{coin: served[coin][0] for coin in served}, **dict(zip(closed, numbers))}
            lists = [dict(sayings) for _, _, _, sayings in talks]
            for ((one, other), index), number in deal.items():
                for at in served[((one, other), index)][1]:
                    lists[at][one] -= number
                    lists[at][other] += number
            yield deal, [{person: number % self.modulus for person, number in messages.items()} for messages in lists]

    def all_borne(self, band):
        """How many deals bear each lists that are possible for a band."""
        found = Counter()
        for _, lists in self.all_deals(band):
            if all(messages[person] == lists[at][person] for at, (_, _, messages, _) in enumerate(self.talks())
                   for person in messages if person in band):
                found[self.rows(lists)] += 1
        return found


def random_call(rng, room, names, chances):
    """A call, right or wrong, as a tuple of its word and its arguments; room is a plain one."""
    word = rng.choices(list(chances), list(chances.values()))[0]
    people = room.people()
    modulus = room.modulus

    def person():
        return rng.choice(people) if people and rng.random() < 0.9 else rng.choice(names)

    if word in ("join", "leave"):
        return (word, rng.choice(names) if word == "join" else person())
    if word == "tie":
        number = rng.choice([0, modulus - 1, rng.randrange(modulus), rng.randrange(modulus)])
        return (word, person(), person(), number if rng.random() < 0.95 else rng.choice([-1, modulus, True, None]))
    if word == "untie":
        ties = sorted(room.coins())
        one, other = rng.choice(ties) if ties and rng.random() < 0.8 else (person(), person())
        return (word, one, other) if rng.random() < 0.5 else (word, other, one)
    if word == "undo":
        return (word, rng.choice([1, 1, 1, 2, 3, 7, 0, True]))
    some = rng.sample(people, rng.choice([0, len(people), rng.randrange(len(people) + 1)]))
    return (word, {one: rng.randrange(modulus) for one in some})


def make(room, word, told):
    """Make a call of a room of the program."""
    if word == "undo":
        return room.undo(steps=told[0])
    return {"join": room.join, "leave": room.leave, "tie": room.tie, "untie": room.untie, "talk": room.talk}[word](*told)


CHANCES = {"join": 3, "leave": 1, "tie": 8, "untie": 1, "talk": 4, "undo": 1}
GROWING = {"join": 4, "leave": 1, "tie": 8, "untie": 1, "talk": 4}


def random_pair(rng, room_class, modulus, names, many, chances=None):
    """A room of the program and a plain one after the same right calls."""
    room, right = room_class(modulus), PlainRoom(modulus)
    for _ in range(many):
        word, *told = random_call(rng, right, names, chances or CHANCES)
        if right.error(word, *told) is None:
            make(room, word, told)
            right.call(word, *told)
    return room, right


def busy_pair(rng, room_class, modulus, names, most):
    """A room of the program and a plain one with two or more talks that two or more coins served, and at most so many."""
    least = rng.randrange(2, most)
    while True:
        room, right = room_class(modulus), PlainRoom(modulus)
        many = rng.randrange(8, 30)
        for at in range(len(names) + many):
            word, *told = random_call(rng, right, names, CHANCES) if at >= len(names) else ("join", names[at])
            if right.error(word, *told) is None:
                make(room, word, told)
                right.call(word, *told)
        if len(right.talks()) >= 2 and least <= len(right.served()) <= most:
            return room, right
