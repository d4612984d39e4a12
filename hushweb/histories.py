"""Whole histories of a room: which messages of all its talks may be the true ones for a band."""

from hushweb.errors import InvalidMessages
from hushweb.kinds import gives_numbers, is_whole
from hushweb.service import are_lists, check_past_band, coins_served, weighted
from hushweb.talks import say
from hushweb.triangles import contradiction, solution, solutions, triangle
from hushweb.webs import is_open


def served(room):
    """Return the ascending list of the coins, told as (tie, first index), that served."""
    return sorted(coins_served(room.held()))


def check_lists(room, band, lists):
    """Raise the error that applies unless two objects are a band and lists of a room."""
    talks = room.held()
    check_past_band(talks, band)
    if not are_lists(talks, lists):
        raise InvalidMessages("lists are a list with, for each talk, a dict from all its people to numbers")


def closed_coins(room, band):
    """Return the ascending list of the coins that served of which nobody in a band knows the number."""
    return [(tie, index) for tie, index in served(room) if not is_open(tie, band)]


def triangle_of(room, band, lists):
    """Return the triangle of what the talks tell a band of the closed coins if the messages are those of the lists."""
    talks = room.held()
    closed = closed_coins(room, band)
    width = len(closed) + 1
    equations = {}
    for index, (web, _, _, sayings) in enumerate(talks):
        for person in web.people:
            equations[(index, person)] = [0] * len(closed) + [sayings[person] - lists[index][person]]
    place_of = {closed[at]: at for at in range(len(closed))}
    for coin, (number, indexes) in coins_served(talks).items():
        for index in indexes:
            lay(equations[(index, coin[0][0])], place_of.get(coin), 1, number)
            lay(equations[(index, coin[0][1])], place_of.get(coin), -1, number)
    return triangle(equations, width, room.modulus)


def lay(equation, place, sign, number):
    """Add a coin to an equation: its sign at its place if it is closed, else its number to what is known."""
    if place is None:
        equation[-1] -= sign * number
    else:
        equation[place] = sign


def may_all(room, band, lists):
    """Return whether lists are possible for a band."""
    check_lists(room, band, lists)
    return contradiction(triangle_of(room, band, lists)) is None


def deals_all(room, band, lists):
    """Return how many deals bear lists."""
    check_lists(room, band, lists)
    rows = triangle_of(room, band, lists)
    return solutions(rows, room.modulus) if contradiction(rows) is None else 0


def deal_of(room, band, lists):
    """Return any deal that bears lists, or None if they are not possible."""
    check_lists(room, band, lists)
    rows = triangle_of(room, band, lists)
    if contradiction(rows) is not None:
        return None
    coins = coins_served(room.held())
    found = {coin: coins[coin][0] for coin in coins}
    for coin, number in zip(closed_coins(room, band), solution(rows, room.modulus)):
        found[coin] = number
    return found


def against(room, band, lists):
    """Return any weights of which a band knows the sum, and by which lists come to another one, or None."""
    check_lists(room, band, lists)
    sources = contradiction(triangle_of(room, band, lists))
    if sources is None:
        return None
    # What people say less what is known of their coins adds up, by these, without any of the closed coins.
    return [{person: sources.get((index, person), 0) for person in web.people}
            for index, (web, _, _, _) in enumerate(room.held())]


def bears_all(room, band, lists, thing):
    """Return whether an object is a deal that bears lists."""
    check_lists(room, band, lists)
    talks = room.held()
    coins = coins_served(talks)
    # The indexes are looked at on their own, as False and True are found in the place of 0 and 1.
    if not gives_numbers(thing, coins, room.modulus) or not all([is_whole(index) for _, index in thing]):
        return False
    if not all([thing[coin] == coins[coin][0] for coin in coins if is_open(coin[0], band)]):
        return False
    # With the coins at a band's people as they are, what is said leaves these their own messages alone.
    return all([say(web, coins_at(coins, thing, at), lists[at]) == sayings
                for at, (web, _, _, sayings) in enumerate(talks)])


def coins_at(coins, deal, at):
    """Return the coins of a deal that served a talk, by their ties."""
    return {coin[0]: deal[coin] for coin, (_, indexes) in coins.items() if at in indexes}


def speaks_against(room, band, lists, thing):
    """Return whether an object are weights of which a band knows the sum, and by which lists come to another one."""
    check_lists(room, band, lists)
    if not are_lists(room.held(), thing):
        return False
    is_known, told = room.known(band, thing)
    return is_known and weighted(thing, lists, room.modulus) != told
