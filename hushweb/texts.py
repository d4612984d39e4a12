"""Texts of webs, numbers and coins."""

from hushweb.errors import InvalidNumbers, ParseError
from hushweb.kinds import are_names
from hushweb.talks import are_numbers, check_coins
from hushweb.webs import GREATEST_MODULUS, LEAST_MODULUS, MOST_PEOPLE, Web, check_web, is_tie

FIGURES = "0123456789"
WEB_LINES = 3


def tie_text(tie):
    """Return how a tie is written."""
    return "-".join(tie)


def format_web(web):
    """Return the text of a web: its people, its ties and its modulus, a line each."""
    check_web(web)
    ties = [tie_text(tie) for tie in web.ties]
    return "\n".join([" ".join(web.people), " ".join(ties), str(web.modulus)])


def format_numbers(web, numbers):
    """Return the text of numbers by people."""
    check_web(web)
    if not are_numbers(web, numbers):
        raise InvalidNumbers("numbers are a dict from all people of the web to numbers")
    return " ".join([f"{person}={numbers[person]}" for person in web.people])


def format_coins(web, coins):
    """Return the text of coins."""
    check_web(web)
    check_coins(web, coins)
    return " ".join([f"{tie_text(tie)}={coins[tie]}" for tie in web.ties])


def number_in(word, most):
    """Return the integer from 0 to most that a word writes without leading zeros, or None."""
    if not 1 <= len(word) <= len(str(most)) or not all([sign in FIGURES for sign in word]):
        return None
    number = int(word)
    return number if number <= most and str(number) == word else None


def parse_web(text):
    """Return the web that a text tells."""
    lines = text.split("\n") if isinstance(text, str) else []
    people = people_in(line_at(lines, 0))
    ties = ties_in(line_at(lines, 1), people)
    modulus = number_in(line_at(lines, 2), GREATEST_MODULUS)
    if modulus is None or modulus < LEAST_MODULUS:
        raise ParseError(2)
    if len(lines) > WEB_LINES:
        raise ParseError(WEB_LINES)
    return Web(people, ties, modulus)


def line_at(lines, index):
    """Return a line, or raise ParseError if it is not there."""
    if index >= len(lines):
        raise ParseError(index)
    return lines[index]


def people_in(line):
    """Return the people that the first line of a web tells."""
    people = line.split(" ")
    if not are_names(people, MOST_PEOPLE) or people != sorted(people):
        raise ParseError(0)
    return people


def ties_in(line, people):
    """Return the ties of these people that the second line of a web tells."""
    words = line.split(" ") if line else []
    ties = [tuple(word.split("-")) for word in words]
    if not all([is_tie(people, tie) for tie in ties]) or ties != sorted(set(ties)):
        raise ParseError(1)
    return ties


def parse_numbers(web, text):
    """Return the numbers by people that a text tells."""
    check_web(web)
    return numbers_in(text, {person: person for person in web.people}, web.modulus)


def parse_coins(web, text):
    """Return the coins that a text tells."""
    check_web(web)
    return numbers_in(text, {tie_text(tie): tie for tie in web.ties}, web.modulus)


def numbers_in(text, places, modulus):
    """Return a dict of the numbers that a text tells; places is a dict from what stands before each "=" to its key."""
    if not isinstance(text, str):
        raise ParseError(0)
    words = text.split(" ") if text else []
    if len(words) != len(places):
        raise ParseError(0)
    numbers = {}
    for word, (place, key) in zip(words, places.items()):
        before, _, after = word.partition("=")
        number = number_in(after, modulus - 1)
        if before != place or number is None:
            raise ParseError(0)
        numbers[key] = number
    return numbers
