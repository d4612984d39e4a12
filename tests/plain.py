"""The words of the document, read one by one and gone through without any cleverness: what the program is held against."""

import itertools
from collections import Counter


def kinds_of(thing):
    return sorted([(type(key).__name__, key) for key in thing], key=repr)


def gives_numbers(thing, told, modulus):
    """Whether an object is a dict from all that is told to numbers."""
    if type(thing) is not dict or kinds_of(thing) != kinds_of(told):
        return False
    return all(type(number) is int and number in range(modulus) for number in thing.values())


def say(web, coins, messages):
    """The sayings as the document tells them: each coin handed to the one end, and taken from the other one."""
    said = dict(messages)
    for (one, other), coin in coins.items():
        said[one] += coin
        said[other] -= coin
    return {person: said[person] % web.modulus for person in said}


def pieces(people, ties, band):
    """The pieces as the document tells them: from whom one gets to whom, step by step."""
    outside = sorted(person for person in people if person not in band)
    gets = {(one, other) for one in outside for other in outside
            if one == other or (one, other) in ties or (other, one) in ties}
    for between, one, other in itertools.product(outside, repeat=3):
        if (one, between) in gets and (between, other) in gets:
            gets.add((one, other))
    found = {tuple(other for other in outside if (one, other) in gets) for one in outside}
    return [list(piece) for piece in sorted(found)]


def open_ties(web, band):
    return [tie for tie in web.ties if any(person in band for person in tie)]


def is_view(web, thing):
    """Whether an object is a view; what is judged here is built of Python's own kinds alone."""
    if type(thing) is not tuple or len(thing) != 4:
        return False
    band, own, coins, sayings = thing
    if type(band) is not list or any(type(person) is not str for person in band):
        return False
    if sorted(band) != [person for person in web.people if person in band]:
        return False
    if not (gives_numbers(own, band, web.modulus) and gives_numbers(coins, open_ties(web, band), web.modulus)
            and gives_numbers(sayings, web.people, web.modulus)):
        return False
    # The coins that are not open change nothing at the people of the band.
    said = say(web, {**{tie: 0 for tie in web.ties}, **coins}, {**{person: 0 for person in web.people}, **own})
    return all(said[person] == sayings[person] for person in band)


def all_coins(web, seen):
    """All deals of coins in which the open ones are as in a view, one by one."""
    closed = [tie for tie in web.ties if tie not in seen[2]]
    for numbers in itertools.product(range(web.modulus), repeat=len(closed)):
        yield {**seen[2], **dict(zip(closed, numbers))}


def messages_by(web, coins, sayings):
    """What everybody's message is in a talk with these coins and sayings."""
    silent = say(web, coins, {person: 0 for person in web.people})
    return {person: (sayings[person] - silent[person]) % web.modulus for person in web.people}


def row(web, messages):
    return tuple(messages[person] for person in web.people)


def all_borne(web, seen):
    """How many deals of coins bear each messages that are possible in a view."""
    found = Counter()
    for coins in all_coins(web, seen):
        messages = messages_by(web, coins, seen[3])
        if all(messages[person] == number for person, number in seen[1].items()):
            found[row(web, messages)] += 1
    return found


def all_messages(web):
    for numbers in itertools.product(range(web.modulus), repeat=len(web.people)):
        yield dict(zip(web.people, numbers))


def sums(web, seen):
    """The sums of the pieces, tie by tie."""
    found = []
    for piece in pieces(web.people, web.ties, seen[0]):
        total = sum(seen[3][person] for person in piece)
        for (first, second), coin in seen[2].items():
            if first in piece:
                total -= coin
            if second in piece:
                total += coin
        found.append((piece, total % web.modulus))
    return found


def may(web, seen, messages):
    """Whether messages are possible, by the fact that may be relied on."""
    return (all(messages[person] == number for person, number in seen[1].items())
            and all(sum(messages[person] for person in piece) % web.modulus == number
                    for piece, number in sums(web, seen)))


def lone_messages(web):
    """All messages of which at most one is not 0."""
    silent = {person: 0 for person in web.people}
    yield silent
    for person in web.people:
        for number in range(1, web.modulus):
            yield {**silent, person: number}


def parts(web, band, one, other):
    found = pieces(web.people, web.ties, band)
    return [piece for piece in found if one in piece] != [piece for piece in found if other in piece]


def least_band(web, one, other):
    """The size of the least band that parts two people, or None."""
    others = [person for person in web.people if person not in (one, other)]
    for size in range(len(others) + 1):
        if any(parts(web, band, one, other) for band in itertools.combinations(others, size)):
            return size
    return None


def strength(web):
    for size in range(len(web.people) + 1):
        for band in itertools.combinations(web.people, size):
            if len(pieces(web.people, web.ties, band)) > 1:
                return size
    return None
