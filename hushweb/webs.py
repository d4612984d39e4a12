"""Webs: people, the ties between them, and the pieces that a band leaves."""

from hushweb.errors import InvalidBand, InvalidModulus, InvalidPeople, InvalidTies, InvalidWeb, UnknownPerson
from hushweb.kinds import are_names, is_integer

MOST_PEOPLE = 8
LEAST_MODULUS = 2
GREATEST_MODULUS = 100


class Web:
    """People, ties of two of them, and the modulus of all numbers; a web does not change."""

    def __init__(self, people, ties, modulus):
        check_people(people)
        check_ties(people, ties)
        check_modulus(modulus)
        self._people = sorted(people)
        self._ties = sorted(ties)
        self._modulus = modulus

    @property
    def people(self):
        """The ascending list of the people."""
        return list(self._people)

    @property
    def ties(self):
        """The ascending list of the ties."""
        return list(self._ties)

    @property
    def modulus(self):
        """The modulus."""
        return self._modulus

    def __eq__(self, other):
        return (isinstance(other, Web) and self._people == other._people
                and self._ties == other._ties and self._modulus == other._modulus)


def check_people(people):
    """Raise InvalidPeople unless an object is the people of some web."""
    if not are_names(people, MOST_PEOPLE):
        raise InvalidPeople("people are a list of one to eight different names")


def check_ties(people, ties):
    """Raise InvalidTies unless an object is a list of ties of these people, each at most once."""
    # Only ties may go into the set: not every object can be a member of one.
    if not (isinstance(ties, list) and all([is_tie(people, tie) for tie in ties])
            and len(set(ties)) == len(ties)):
        raise InvalidTies("ties are a list of different tuples of two of the people, the lesser one first")


def is_tie(people, thing):
    """Return whether an object may be a tie of two of these people."""
    if not isinstance(thing, tuple) or len(thing) != 2:
        return False
    return thing[0] in people and thing[1] in people and thing[0] < thing[1]


def check_modulus(modulus):
    """Raise InvalidModulus unless an object is the modulus of some web."""
    if not is_integer(modulus, LEAST_MODULUS, GREATEST_MODULUS):
        raise InvalidModulus("a modulus is an integer from 2 to 100")


def check_web(web):
    """Raise InvalidWeb unless an object is a web."""
    if not isinstance(web, Web):
        raise InvalidWeb("this is no web")


def check_person(web, person):
    """Raise UnknownPerson unless an object is one of the people of a web."""
    if person not in web.people:
        raise UnknownPerson("this is none of the people of the web")


def is_band(web, thing):
    """Return whether an object is a list of different people of a web."""
    if not isinstance(thing, list):
        return False
    people = web.people
    # Only people may go into the set: not every object can be a member of one.
    return all([person in people for person in thing]) and len(set(thing)) == len(thing)


def check_band(web, band):
    """Raise InvalidBand unless an object is a band of a web."""
    if not is_band(web, band):
        raise InvalidBand("a band is a list of different people of the web")


def is_open(tie, band):
    """Return whether one of the two people of a tie is in a band."""
    return tie[0] in band or tie[1] in band


def tied(web, one, other):
    """Return whether two people are tied, in whichever order they are told."""
    check_web(web)
    check_person(web, one)
    check_person(web, other)
    return (one, other) in web.ties or (other, one) in web.ties


def ties_of(web, person):
    """Return the ascending list of the people tied to one."""
    check_web(web)
    check_person(web, person)
    return [other for other in web.people if tied(web, person, other)]


def pieces(web, band):
    """Return the pieces of a band, ascending, each as the ascending list of its people."""
    check_web(web)
    check_band(web, band)
    return joined_parts([person for person in web.people if person not in band], web.ties)


def joined_parts(people, ties):
    """Return the greatest parts of ascending people that hang together by those of the ties that are between them."""
    part_of = {person: [person] for person in people}
    for one, other in ties:
        if one in part_of and other in part_of and part_of[one] != part_of[other]:
            part = sorted(part_of[one] + part_of[other])
            for person in part:
                part_of[person] = part
    # A part stands in part_of once for each of its people: it is told where its least one is.
    return [part_of[person] for person in people if part_of[person][0] == person]
