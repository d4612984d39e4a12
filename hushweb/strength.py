"""Strength: how few people part some two others, and the fewest ties against bands of a size."""

from itertools import combinations

from hushweb.kinds import check_number
from hushweb.webs import MOST_PEOPLE, Web, check_modulus, check_people, check_web, pieces

GREATEST_SIZE = 6


def strength(web):
    """Return the least number of people of a band that parts some two people, or None."""
    found = weakest(web)
    return None if found is None else len(found[0])


def weakest(web):
    """Return any tuple of a band of as few people as there can be and two whom it parts, or None."""
    check_web(web)
    people = web.people
    for size in range(len(people)):
        for band in combinations(people, size):
            found = pieces(web, list(band))
            if len(found) > 1:
                return (list(band), found[0][0], found[1][0])
    return None


def fewest_ties(many, size):
    """Return the least number of ties of a web of so many people whose strength is None or greater than a size."""
    check_number(many, 1, MOST_PEOPLE)
    check_number(size, 0, GREATEST_SIZE)
    needed = ties_each(many, size)
    if needed == 1:
        # One tie for each person leaves pairs: it takes a row of all people to hang together.
        return many - 1
    return (many * needed + 1) // 2


def ties_each(many, size):
    """Return how many ties each person needs at least against bands of a size; all others, where they are few."""
    return min(size + 1, many - 1)


def strong_web(people, size, modulus):
    """Return any web with these people and the fewest ties whose strength is None or greater than a size."""
    check_people(people)
    check_number(size, 0, GREATEST_SIZE)
    check_modulus(modulus)
    circle = sorted(people)
    many = len(circle)
    needed = ties_each(many, size)
    if needed == 1:
        return Web(people, [(circle[at], circle[at + 1]) for at in range(many - 1)], modulus)
    # Each is tied to the nearest ones on both sides, and, for an odd number, to the one across the circle.
    ties = [tie_on(circle, at, steps) for steps in range(1, needed // 2 + 1) for at in range(many)]
    if needed % 2 == 1:
        ties = ties + [tie_on(circle, at, many // 2) for at in range((many + 1) // 2)]
    return Web(people, ties, modulus)


def tie_on(circle, at, steps):
    """Return the tie of the person at a place of a circle and the one so many steps further."""
    return tuple(sorted([circle[at], circle[(at + steps) % len(circle)]]))
