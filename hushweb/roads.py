"""Roads: as many as there can be between two people, and as few people as there can be that part them."""

from itertools import combinations

from hushweb.errors import SamePerson
from hushweb.lone import parts
from hushweb.ways import find_way
from hushweb.webs import check_person, check_web, is_band, tied, ties_of

# A person is passed from the entrance to the exit, so that a way that goes through uses the person up.
ENTRANCE = 0
EXIT = 1


def check_two(web, one, other):
    """Raise the error that applies unless two objects are a web's people and not the same."""
    check_web(web)
    check_person(web, one)
    check_person(web, other)
    if one == other:
        raise SamePerson("roads and bands are between two different people")


def roads(web, one, other):
    """Return any roads from one to other, as many as there can be."""
    check_two(web, one, other)
    links = links_between(web, one, other)
    way = find_way(links, (one, EXIT), (other, ENTRANCE))
    while way is not None:
        turn_round(links, way)
        way = find_way(links, (one, EXIT), (other, ENTRANCE))
    return [followed(web, links, [one, first], other) for first in after(web, links, one)]


def links_between(web, one, other):
    """Return the links from the exits to the entrances of tied people, and from the entrance to the exit of each."""
    links = {(other, ENTRANCE): []}
    for person in web.people:
        if person != other:
            links[(person, ENTRANCE)] = [(person, EXIT)]
            links[(person, EXIT)] = [(near, ENTRANCE) for near in ties_of(web, person) if near != one]
    return links


def turn_round(links, way):
    """Turn the links of a way round: a later way that goes back on one of them takes it out of all roads."""
    for place, further in zip(way, way[1:]):
        links[place].remove(further)
        links[further].append(place)


def after(web, links, person):
    """Return the list of those to whom roads go on from a person, by the links that are turned round."""
    return [near for near in ties_of(web, person) if (person, EXIT) in links[(near, ENTRANCE)]]


def followed(web, links, road, other):
    """Return a road, of which the beginning is told, as it goes on to its end."""
    while road[-1] != other:
        road = road + after(web, links, road[-1])
    return road


def least_band(web, one, other):
    """Return any band of as few people as there can be that parts two others, or None if they are tied."""
    check_two(web, one, other)
    others = [person for person in web.people if person not in (one, other)]
    for size in range(len(others) + 1):
        for band in combinations(others, size):
            if parts(web, list(band), one, other):
                return list(band)
    return None


def are_roads(web, one, other, thing):
    """Return whether an object are roads from one to other, however many."""
    check_two(web, one, other)
    if not isinstance(thing, list) or not all([is_road(web, one, other, road) for road in thing]):
        return False
    passed = [person for road in thing for person in road[1:-1]]
    return len(set(passed)) == len(passed) and thing.count([one, other]) <= 1


def is_road(web, one, other, thing):
    """Return whether an object is a road from one to other."""
    # A band is a list of different people, as a road is.
    if not is_band(web, thing) or thing[:1] != [one] or thing[-1:] != [other]:
        return False
    return all([tied(web, person, further) for person, further in zip(thing, thing[1:])])
