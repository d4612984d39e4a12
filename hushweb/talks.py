"""Talks: coins on the ties, messages of the people, and what everybody says."""

from hushweb.errors import InvalidCoins, InvalidMessages, InvalidSayings
from hushweb.kinds import gives_numbers
from hushweb.webs import check_web


def are_coins(web, thing):
    """Return whether an object is a dict from all ties of a web to numbers."""
    check_web(web)
    return gives_numbers(thing, web.ties, web.modulus)


def are_numbers(web, thing):
    """Return whether an object is a dict from all people of a web to numbers."""
    check_web(web)
    return gives_numbers(thing, web.people, web.modulus)


def check_coins(web, coins):
    """Raise InvalidCoins unless an object is coins of a web."""
    if not are_coins(web, coins):
        raise InvalidCoins("coins are a dict from all ties of the web to numbers")


def check_messages(web, messages):
    """Raise InvalidMessages unless an object is messages of a web."""
    if not are_numbers(web, messages):
        raise InvalidMessages("messages are a dict from all people of the web to numbers")


def check_sayings(web, sayings):
    """Raise InvalidSayings unless an object is sayings of a web."""
    if not are_numbers(web, sayings):
        raise InvalidSayings("sayings are a dict from all people of the web to numbers")


def share(coins, person):
    """Return what the coins of ties add, up to the modulus, to what a person says."""
    firsts = [coin for tie, coin in coins.items() if tie[0] == person]
    seconds = [coin for tie, coin in coins.items() if tie[1] == person]
    return sum(firsts) - sum(seconds)


def say(web, coins, messages):
    """Return the sayings of a talk."""
    check_web(web)
    check_coins(web, coins)
    check_messages(web, messages)
    return {person: (messages[person] + share(coins, person)) % web.modulus for person in web.people}


def heard(web, sayings):
    """Return the sum of all sayings, which is that of the messages."""
    check_web(web)
    check_sayings(web, sayings)
    return sum([sayings[person] for person in web.people]) % web.modulus
