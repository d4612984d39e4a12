"""Pools: what two bands know together alone, and what shown coins tell a band."""

from hushweb.errors import InvalidCoins
from hushweb.kinds import gives_some
from hushweb.known import sums
from hushweb.talks import share
from hushweb.views import agree, check_view, joined, merged
from hushweb.webs import check_web, joined_parts, pieces


def pooled(web, one, other):
    """Return the ascending list of the tuples (piece, sum) that two bands know together alone."""
    both = joined(web, one, other)
    # A piece of both hangs together: it is made up of whole pieces of one band just if it is one of them.
    known = pieces(web, one[0]) + pieces(web, other[0])
    return [(piece, number) for piece, number in sums(web, both) if piece not in known]


def opened(web, view, shown):
    """Return the ascending list of tuples (piece, sum) that a band knows when coins have been shown to all."""
    check_web(web)
    check_view(web, view)
    if not gives_some(shown, web.ties, web.modulus) or not agree(view[2], shown):
        raise InvalidCoins("shown coins are a dict from ties to numbers, to those of the view where it tells them")
    coins = merged(view[2], shown)
    outside = [person for person in web.people if person not in view[0]]
    hidden = [tie for tie in web.ties if tie not in coins]
    return [(piece, sum([view[3][person] - share(coins, person) for person in piece]) % web.modulus)
            for piece in joined_parts(outside, hidden)]
