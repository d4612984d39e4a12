"""Free coins: ties on which any numbers may lie, whatever messages are possible."""

from hushweb.errors import InvalidNumbers
from hushweb.kinds import gives_numbers
from hushweb.known import may, settle
from hushweb.webs import check_band, check_web, is_open, joined_parts, pieces


def closed_ties(web, band):
    """Return the ascending list of the ties that are not open to a band."""
    return [tie for tie in web.ties if not is_open(tie, band)]


def free_ties(web, band):
    """Return any free list of a band."""
    check_web(web)
    check_band(web, band)
    free = []
    kept = []
    for tie in closed_ties(web, band):
        # A tie within a part that hangs together already is not needed.
        if any([tie[0] in part and tie[1] in part for part in joined_parts(web.people, kept)]):
            free.append(tie)
        else:
            kept.append(tie)
    return free


def is_free(web, band, thing):
    """Return whether an object is a free list of a band."""
    check_web(web)
    check_band(web, band)
    closed = closed_ties(web, band)
    if not isinstance(thing, list) or thing != [tie for tie in closed if tie in thing]:
        return False
    found = pieces(web, band)
    kept = [tie for tie in closed if tie not in thing]
    outside = [person for person in web.people if person not in band]
    # Each piece falls apart without any one more tie just if it has one tie less than people.
    return joined_parts(outside, kept) == found and len(kept) == len(outside) - len(found)


def bearing_with(web, view, messages, chosen):
    """Return the coins that bear messages in a view and have the chosen numbers, or None if they are not possible."""
    possible = may(web, view, messages)
    closed = closed_ties(web, view[0])
    if not isinstance(chosen, dict):
        raise InvalidNumbers("chosen numbers are a dict")
    free = [tie for tie in closed if tie in chosen]
    if not is_free(web, view[0], free) or not gives_numbers(chosen, free, web.modulus):
        raise InvalidNumbers("chosen numbers are those of all ties of a free list")
    if not possible:
        return None
    coins = {tie: chosen.get(tie, view[2].get(tie, 0)) for tie in web.ties}
    settle(web, view, messages, coins, [tie for tie in closed if tie not in chosen])
    return coins
