"""What integers, names and numbers are, asked of any objects."""

from hushweb.errors import InvalidName, InvalidNumber

LETTERS = "abcdefghijklmnopqrstuvwxyz"
LONGEST_NAME = 8


def is_whole(thing):
    """Return whether an object is an integer."""
    return isinstance(thing, int) and not isinstance(thing, bool)


def is_integer(thing, least, most):
    """Return whether an object is an integer from least to most."""
    return is_whole(thing) and least <= thing <= most


def is_name(thing):
    """Return whether an object is a name."""
    if not isinstance(thing, str) or not 1 <= len(thing) <= LONGEST_NAME:
        return False
    return all([letter in LETTERS for letter in thing])


def are_names(thing, most):
    """Return whether an object is a list of one to so many different names."""
    if not isinstance(thing, list) or not 1 <= len(thing) <= most:
        return False
    # Only names may go into the set: not every object can be a member of one.
    return all([is_name(name) for name in thing]) and len(set(thing)) == len(thing)


def gives_numbers(thing, told, modulus):
    """Return whether an object is a dict from all that is told, and nothing else, to numbers below a modulus."""
    if not isinstance(thing, dict) or len(thing) != len(told):
        return False
    return all([place in thing and is_integer(thing[place], 0, modulus - 1) for place in told])


def gives_some(thing, told, modulus):
    """Return whether an object is a dict from some of what is told, perhaps none, to numbers below a modulus."""
    return isinstance(thing, dict) and gives_numbers(thing, [place for place in told if place in thing], modulus)


def check_number(thing, least, most):
    """Raise InvalidNumber unless an object is an integer from least to most."""
    if not is_integer(thing, least, most):
        raise InvalidNumber(f"this is no integer from {least} to {most}")


def check_name(name):
    """Raise InvalidName unless an object is a name."""
    if not is_name(name):
        raise InvalidName("a name is a string of one to eight lowercase letters")
