"""Openings: what people claim the coins to be, and who must have lied."""

from itertools import combinations

from hushweb.errors import InvalidOpening
from hushweb.kinds import gives_numbers
from hushweb.talks import check_sayings, share
from hushweb.webs import check_web, is_band, is_open


def is_opening(web, thing):
    """Return whether an object is a dict from all people to dicts from all ties at them to numbers."""
    check_web(web)
    people = web.people
    if not isinstance(thing, dict) or len(thing) != len(people):
        return False
    return all([person in thing and gives_numbers(thing[person], ties_at(web, person), web.modulus)
                for person in people])


def ties_at(web, person):
    """Return the ascending list of the ties at a person."""
    return [tie for tie in web.ties if person in tie]


def check_opening(web, opening):
    """Raise the error that applies unless two objects are a web and an opening of it."""
    if not is_opening(web, opening):
        raise InvalidOpening("an opening is a dict from all people to dicts from all ties at them to numbers")


def torn(web, opening):
    """Return the ascending list of the ties whose two ends claim unlike numbers."""
    check_opening(web, opening)
    return [tie for tie in web.ties if opening[tie[0]][tie] != opening[tie[1]][tie]]


def unfit(web, opening, sayings):
    """Return the ascending list of the people who did not say what their own claims make of silence."""
    check_opening(web, opening)
    check_sayings(web, sayings)
    return [person for person in web.people
            if (sayings[person] - share(opening[person], person)) % web.modulus != 0]


def are_enough(people, ties, unfitting):
    """Return whether some people are an end of each of the torn ties, and all unfitting ones among them."""
    return all([is_open(tie, people) for tie in ties]) and all([person in people for person in unfitting])


def all_fewest(web, opening, sayings):
    """Return the list of all liars that are as few as there can be."""
    unfitting = unfit(web, opening, sayings)
    ties = torn(web, opening)
    people = web.people
    groups = [list(group) for size in range(len(people) + 1) for group in combinations(people, size)]
    liars = [group for group in groups if are_enough(group, ties, unfitting)]
    # All people are always liars, so that there are some; the groups stand by their size.
    return [group for group in liars if len(group) == len(liars[0])]


def fewest_liars(web, opening, sayings):
    """Return any liars, as few as there can be."""
    return all_fewest(web, opening, sayings)[0]


def are_liars(web, opening, sayings, thing):
    """Return whether an object are liars, told as an ascending list."""
    unfitting = unfit(web, opening, sayings)
    return is_band(web, thing) and thing == sorted(thing) and are_enough(thing, torn(web, opening), unfitting)


def in_fewest(web, opening, sayings):
    """Return the ascending list of the people who are in all liars that are as few as there can be."""
    fewest = all_fewest(web, opening, sayings)
    return [person for person in fewest[0] if all([person in liars for liars in fewest])]
