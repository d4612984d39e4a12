"""Turns: who is heard when some people speak at once, each in the own turns."""

from itertools import combinations
from math import comb

from hushweb.errors import InvalidPeople, InvalidTimetable
from hushweb.kinds import are_names, check_number, is_integer

MOST_NAMES = 50
GREATEST_TURN = 20
MOST_AT_ONCE = 3


def is_timetable(thing):
    """Return whether an object is a timetable."""
    if not isinstance(thing, dict) or not are_names(list(thing), MOST_NAMES):
        return False
    return all([are_turns(turns) for turns in thing.values()])


def are_turns(thing):
    """Return whether an object is a tuple of one or more ascending different turns."""
    if not isinstance(thing, tuple) or len(thing) == 0:
        return False
    if not all([is_integer(turn, 1, GREATEST_TURN) for turn in thing]):
        return False
    return all([turn < later for turn, later in zip(thing, thing[1:])])


def unheard(timetable, many):
    """Return any tuple (people, one) of at most so many people who are not heard and one of them, or None."""
    if not is_timetable(timetable):
        raise InvalidTimetable("a timetable is a dict from names to tuples of ascending turns")
    check_number(many, 1, MOST_AT_ONCE)
    names = sorted(timetable)
    bits = {name: turn_bits(timetable[name]) for name in names}
    for size in range(1, many + 1):
        for people in combinations(names, size):
            for one in people:
                if not has_turn_alone(bits, people, one):
                    return (list(people), one)
    return None


def turn_bits(turns):
    """Return a number that has a bit for each turn: the groups of people are many, and bits are quick to compare."""
    return sum([1 << turn for turn in turns])


def has_turn_alone(bits, people, one):
    """Return whether one of some people has a turn that none of the others has."""
    taken = 0
    for other in people:
        if other != one:
            taken |= bits[other]
    return bits[one] & ~taken != 0


def fewest_turns(many):
    """Return the least number of turns of a timetable of so many people of whom any two are heard."""
    check_number(many, 1, MOST_NAMES)
    # Any two are heard just if nobody's turns are all among another's. Among so many turns there are at most as
    # many such choices as there are choices of half of the turns (Sperner).
    turns = 1
    while comb(turns, turns // 2) < many:
        turns += 1
    return turns


def timetable(people):
    """Return any timetable of these people of whom any two are heard, with the fewest turns."""
    if not are_names(people, MOST_NAMES):
        raise InvalidPeople("people of a timetable are a list of one to fifty different names")
    turns = fewest_turns(len(people))
    # Rounded up: a single turn is needed by a single person.
    half = int((turns + 1) // 2)
    choices = list(combinations(range(1, turns + 1), half))
    return {person: choice for person, choice in zip(people, choices)}
