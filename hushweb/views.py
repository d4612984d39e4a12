"""Views: what the people of a band see of a talk."""

from hushweb.errors import InvalidView, Mismatch
from hushweb.kinds import gives_numbers
from hushweb.talks import are_numbers, check_coins, check_messages, say, share
from hushweb.webs import check_band, check_web, is_band, is_open


def open_ties(web, band):
    """Return the ascending list of the ties that are open to a band."""
    return [tie for tie in web.ties if is_open(tie, band)]


def view(web, band, coins, messages):
    """Return the view of a band at a talk: the band, the messages of its people, its coins and all sayings."""
    check_web(web)
    check_band(web, band)
    check_coins(web, coins)
    check_messages(web, messages)
    own = {person: messages[person] for person in band}
    seen = {tie: coins[tie] for tie in open_ties(web, band)}
    return (list(band), own, seen, say(web, coins, messages))


def is_view(web, thing):
    """Return whether an object is a view."""
    check_web(web)
    if not isinstance(thing, tuple) or len(thing) != 4:
        return False
    band, own, coins, sayings = thing
    return (is_band(web, band) and gives_numbers(own, band, web.modulus)
            and gives_numbers(coins, open_ties(web, band), web.modulus) and are_numbers(web, sayings)
            and all([sayings[person] == (own[person] + share(coins, person)) % web.modulus for person in band]))


def check_view(web, thing):
    """Raise InvalidView unless an object is a view of a web."""
    if not is_view(web, thing):
        raise InvalidView("a view is a tuple of a band, its messages, the coins open to it and all sayings")


def agree(one, other):
    """Return whether two dicts have like values wherever both have a key."""
    return all([one[key] == other[key] for key in one if key in other])


def merged(one, other):
    """Return a new dict of all that stands in one or the other of two dicts that agree."""
    return {key: one[key] if key in one else other[key] for key in list(one) + list(other)}


def joined(web, one, other):
    """Return the view of the people of two bands together."""
    check_web(web)
    check_view(web, one)
    check_view(web, other)
    # Both have sayings of all people, so that these agree just if they are alike.
    if not all([agree(one[part], other[part]) for part in (1, 2, 3)]):
        raise Mismatch("the two views tell of unlike talks")
    further = [person for person in other[0] if person not in one[0]]
    return (one[0] + further, merged(one[1], other[1]), merged(one[2], other[2]), merged(one[3], other[3]))
