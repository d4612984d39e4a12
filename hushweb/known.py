"""What a band knows: the sums of the messages in the pieces that it leaves, and nothing else."""

from hushweb.talks import are_coins, check_messages, say, share
from hushweb.views import agree, check_view
from hushweb.ways import find_way
from hushweb.webs import check_web, pieces


def sums(web, view):
    """Return the list of tuples (piece, sum) of the pieces of a view's band, ascending."""
    check_web(web)
    check_view(web, view)
    band, _, coins, sayings = view
    return [(piece, sum([sayings[person] - share(coins, person) for person in piece]) % web.modulus)
            for piece in pieces(web, band)]


def may(web, view, messages):
    """Return whether messages are possible in a view."""
    check_web(web)
    check_view(web, view)
    check_messages(web, messages)
    fitting = [sum([messages[person] for person in piece]) % web.modulus == number
               for piece, number in sums(web, view)]
    return agree(view[1], messages) and all(fitting)


def power(base, exponent):
    """Return a number multiplied by itself so many times; 1 for no times."""
    worth = 1
    for _ in range(exponent):
        worth = worth * base
    return worth


def deals(web, view, messages):
    """Return how many coins bear messages in a view."""
    if not may(web, view, messages):
        return 0
    closed = len(web.ties) - len(view[2])
    outside = len(web.people) - len(view[0])
    return power(web.modulus, closed - outside + len(pieces(web, view[0])))


def bearing(web, view, messages):
    """Return any coins that bear messages in a view, or None if they are not possible."""
    if not may(web, view, messages):
        return None
    coins = {tie: view[2].get(tie, 0) for tie in web.ties}
    settle(web, view, messages, coins, web.ties)
    return coins


def settle(web, view, messages, coins, ties):
    """Change coins of ties by which each piece hangs together so that they bear possible messages in a view."""
    links = links_by(ties)
    for piece in pieces(web, view[0]):
        inside = {person: [other for other in links.get(person, []) if other in piece] for person in piece}
        # The first one of a piece takes what the others lack: what is left there comes out by the piece's sum.
        for person in piece[1:]:
            lacking = view[3][person] - messages[person] - share(coins, person)
            send(coins, find_way(inside, person, piece[0]), lacking, web.modulus)


def links_by(ties):
    """Return a dict from all who stand in ties to the list of those to whom they are tied by these."""
    links = {}
    for one, other in ties:
        links.setdefault(one, []).append(other)
        links.setdefault(other, []).append(one)
    return links


def send(coins, way, number, modulus):
    """Change coins along a way so that its first one says so much more, its last one so much less."""
    for one, other in zip(way, way[1:]):
        if (one, other) in coins:
            coins[(one, other)] = (coins[(one, other)] + number) % modulus
        else:
            coins[(other, one)] = (coins[(other, one)] - number) % modulus


def bears(web, view, messages, thing):
    """Return whether an object are coins that bear messages in a view."""
    check_web(web)
    check_view(web, view)
    check_messages(web, messages)
    return (are_coins(web, thing) and agree(view[1], messages) and agree(view[2], thing)
            and say(web, thing, messages) == view[3])


def rows(web, view):
    """Return how many messages are possible in a view."""
    check_web(web)
    check_view(web, view)
    outside = len(web.people) - len(view[0])
    return power(web.modulus, outside - len(pieces(web, view[0])))
