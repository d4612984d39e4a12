"""Lone speakers: who may have said a message alone, and which bands part two people."""

from hushweb.errors import InBand
from hushweb.known import sums
from hushweb.views import check_view
from hushweb.webs import check_band, check_person, check_web, pieces


def lone(web, view):
    """Return (message, people) of a lone speaker, (0, []) if all may be silent, None if there are more speakers."""
    check_web(web)
    check_view(web, view)
    told = [([person], number) for person, number in view[1].items()] + sums(web, view)
    speaking = [(people, number) for people, number in told if number != 0]
    if not speaking:
        return (0, [])
    if len(speaking) > 1:
        return None
    people, number = speaking[0]
    return (number, people)


def parts(web, band, one, other):
    """Return whether a band leaves two people outside it in unlike pieces."""
    check_web(web)
    check_band(web, band)
    check_person(web, one)
    check_person(web, other)
    if one in band or other in band:
        raise InBand("a band parts two people outside it")
    return not any([one in piece and other in piece for piece in pieces(web, band)])
