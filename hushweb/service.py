"""Which coins of a room served which talks, and what bands know by them: for rooms and histories.

A talk of a room is a tuple (web, messages, laid, sayings): laid is a dict from all ties to tuples (number, call),
the coin of the tie and the call that laid it.
"""

from hushweb.errors import InvalidBand
from hushweb.kinds import gives_numbers, is_name
from hushweb.webs import is_open


def coins_served(talks):
    """Return a dict from each coin that served, told as (tie, first index), to (number, indexes of its talks)."""
    found = {}
    first_of = {}
    for index, (_, _, laid, _) in enumerate(talks):
        for tie, (number, call) in laid.items():
            # The call tells the coin apart from others of the same tie, also from those with the same number.
            first = first_of.setdefault((tie, call), index)
            found.setdefault((tie, first), (number, []))[1].append(index)
    return found


def check_past_band(talks, band):
    """Raise InvalidBand unless an object is a list of different names of people of some talk."""
    people = {person: True for web, _, _, _ in talks for person in web.people}
    # Only names may go into the set, and be looked up in the dict: not every object can.
    if not (isinstance(band, list) and all([is_name(person) and person in people for person in band])
            and len(set(band)) == len(band)):
        raise InvalidBand("a band of a room is a list of different people of its talks")


def are_lists(talks, thing):
    """Return whether an object is a list with, for each talk, a dict from all its people to numbers."""
    if not isinstance(thing, list) or len(thing) != len(talks):
        return False
    return all([gives_numbers(numbers, web.people, web.modulus) for numbers, (web, _, _, _) in zip(thing, talks)])


def coin_between(talks, band, weights, modulus):
    """Return any coin, told as (tie, first index), that keeps a weighted sum from a band, or None."""
    for (tie, first), (_, indexes) in coins_served(talks).items():
        unlike = sum([weights[index][tie[0]] - weights[index][tie[1]] for index in indexes])
        if not is_open(tie, band) and unlike % modulus != 0:
            return (tie, first)
    return None


def weighted(weights, lists, modulus):
    """Return the sum of weight times message over all people of all talks."""
    return sum([factors[person] * messages[person]
                for factors, messages in zip(weights, lists) for person in factors]) % modulus
