"""Votes: messages that are all 0 or 1, and what a band can tell of them."""

from math import comb

from hushweb.errors import NoVotes, SmallModulus
from hushweb.known import sums
from hushweb.views import check_view
from hushweb.webs import check_web


def yeses(web, view):
    """Return the list of tuples (piece, number) of how many people of each piece said 1 in possible votes."""
    check_web(web)
    if web.modulus <= len(web.people):
        raise SmallModulus("the modulus is not greater than the number of people")
    check_view(web, view)
    found = sums(web, view)
    # As the modulus is greater than each piece, a sum that votes can have is their number.
    if any([number > 1 for number in view[1].values()]) or any([number > len(piece) for piece, number in found]):
        raise NoVotes("no votes are possible in this view")
    return found


def vote_rows(web, view):
    """Return how many votes are possible in a view."""
    many = 1
    for piece, number in yeses(web, view):
        many = many * comb(len(piece), number)
    return many


def sure(web, view):
    """Return the ascending list of the tuples (person, vote) of all who have the same vote in all possible votes."""
    found = yeses(web, view)
    known = [(person, vote) for person, vote in view[1].items()]
    for piece, number in found:
        if number == 0:
            known = known + [(person, 0) for person in piece]
        if number == len(piece):
            known = known + [(person, 1) for person in piece]
    return sorted(known)
