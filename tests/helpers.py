"""What several tests need: objects of all kinds, right and spoilt values, and the webs they are tried with."""

import itertools
import random

from hushweb.errors import HushError, InvalidWeb, ParseError
from hushweb.webs import Web

NAMES = ["ann", "bob", "cy", "dee", "eve", "f", "gregoryx", "zz"]


def example_web():
    ties = [("ann", "bob"), ("bob", "cy"), ("ann", "cy"), ("cy", "dee"), ("dee", "eve")]
    return Web(["ann", "bob", "cy", "dee", "eve"], ties, 10)


def example_coins():
    return {("ann", "bob"): 3, ("ann", "cy"): 4, ("bob", "cy"): 9, ("cy", "dee"): 1, ("dee", "eve"): 6}


def example_messages():
    return {"ann": 0, "bob": 7, "cy": 0, "dee": 0, "eve": 0}


def all_ties(people):
    return list(itertools.combinations(sorted(people), 2))


def bands(people):
    for many in range(len(people) + 1):
        for band in itertools.combinations(people, many):
            yield list(band)


def random_webs(seed, many):
    """Webs of one to eight people, without ties, with all ties and with some, handed in in mixed orders."""
    rng = random.Random(seed)
    for at in range(many):
        people = rng.sample(NAMES, 1 + at % 8)
        chance = rng.choice([0, 0.15, 0.3, 0.5, 0.8, 1])
        ties = [tie for tie in all_ties(people) if rng.random() < chance]
        rng.shuffle(ties)
        yield people, ties, rng.choice([2, 3, 5, 10, 99, 100])


def random_numbers(rng, keys, modulus):
    """A dict from the keys, in a mixed order, to numbers, the least and the greatest one often among them."""
    keys = list(keys)
    rng.shuffle(keys)
    return {key: rng.choice([0, modulus - 1, rng.randrange(modulus)]) for key in keys}


def nested(kind, depth):
    thing = 1
    for _ in range(depth):
        thing = {"list": lambda x: [x], "tuple": lambda x: (x,), "dict": lambda x: {"ann": x}}[kind](thing)
    return thing


def junk():
    """New objects of all kinds; some of them are right in some places."""
    web = example_web()
    return [
        None, True, False, 0, 1, 2, 7, -1, 100, 101, 10 ** 39, -(10 ** 39),
        "", "ann", "zoe", "Ann", "abcdefgh", "abcdefghi", "a b", "a\tb\n", "[]", "0", "~ !",
        (), (1,), ("ann",), ("ann", "bob"), ("bob", "ann"), ("ann", "ann"), ("zoe", "zz"), ((), ()),
        ("ann", "bob", "cy"), (("ann", "bob"), 1), (None, True, 1, ("a", (1,))), (["ann"], ["bob"]),
        [], [None], [1], [True], [[]], [{}], [()], ["ann"], ["ann", "ann"], ["ann", "zoe"], ["zoe"], [["ann"]],
        [("ann",)], [("ann", "bob")], [["ann", "bob"]], ["bob", ["ann"]], [{"ann": 1}], list(range(4000)),
        ["ann"] * 4000, [("ann", "bob")] * 2,
        {}, {"ann": 1}, {1: 1}, {None: None}, {True: False}, {(): []}, {("ann", "bob"): 1}, {"ann": {"bob": [1]}},
        {("ann", ("bob", (None, True))): 1}, {index: index for index in range(2000)},
        example_coins(), example_messages(),
        nested("list", 30), nested("tuple", 30), nested("dict", 30),
        web, [web], (web,), {"ann": web}, (web, web), [web, "ann"], Web(["a"], [], 2),
        HushError("no"), InvalidWeb("no"), ParseError(1), [HushError("no")],
    ]


def spoilt_dicts(right, modulus):
    """Objects that are nearly a dict from the right one's keys to numbers, but not one."""
    out = [list(right.items()), tuple(right.items()), list(right), tuple(right), list(right.values()), [dict(right)],
           (dict(right),), str(right)]
    strangers = ["zoe", "", 0, 1, True, None, (), ("ann",), ("bob", "ann"), ("ann", "ann"), ("ann", "bob", "cy"),
                 ("ann", "zoe"), (("ann", "bob"), 0), ("ann", ("bob",)), "ann-bob", ("gregoryx", "ann")]
    for stranger in strangers:
        if stranger not in right:
            out.append({**right, stranger: 0})
            for key in right:
                out.append({(stranger if old == key else old): right[old] for old in right})
    wrong = [-1, modulus, modulus + 1, 10 ** 39, -(10 ** 39), None, True, False, "0", "1", "", (), (1,), [], [1], {},
             {"ann": 1}, example_web(), nested("list", 29), ParseError(0)]
    for key in right:
        out.append({old: right[old] for old in right if old != key})
        out += [{**right, key: value} for value in wrong]
    return out


def frozen(thing):
    """What an object is throughout, as tuples that tell the kinds, too: two alike are equal just if they are alike."""
    if isinstance(thing, (list, tuple)):
        return (type(thing).__name__, tuple(frozen(part) for part in thing))
    if isinstance(thing, dict):
        return ("dict", tuple((frozen(key), frozen(thing[key])) for key in thing))
    if isinstance(thing, Web):
        return ("Web", frozen(thing.people), frozen(thing.ties), thing.modulus)
    if isinstance(thing, HushError):
        return (type(thing).__name__, str(thing))
    return (type(thing).__name__, thing)


def containers(thing):
    """All lists and dicts within an object, itself among them, each as often as it stands there."""
    out = [thing] if isinstance(thing, (list, dict)) else []
    if isinstance(thing, dict):
        thing = list(thing.keys()) + list(thing.values())
    if isinstance(thing, (list, tuple)):
        for part in thing:
            out += containers(part)
    return out


def all_new(*things):
    """Whether no list and no dict stands twice in these."""
    found = [id(part) for thing in things for part in containers(thing)]
    return len(set(found)) == len(found)


def raised(call, arguments):
    """The kind of the error that a call raises, or None; the arguments are told by name."""
    try:
        call(**arguments)
    except HushError as error:
        return type(error)
    return None


def check_errors(case, call, right, wrong):
    """Try wrong arguments, alone and several at once.

    right: the right arguments, by name. wrong: tuples (name, error, wrong objects), in the order in which the
    document lists the errors.
    """
    case.assertIsNone(raised(call, right))
    for name, error, things in wrong:
        for thing in things:
            before = frozen(thing)
            case.assertIs(raised(call, {**right, name: thing}), error, (call, name, thing))
            case.assertEqual(frozen(thing), before)
    for many in range(2, len(wrong) + 1):
        for chosen in itertools.combinations(wrong, many):
            longest = max(len(things) for _, _, things in chosen)
            for at in range(longest):
                spoilt = {name: things[(at * (1 + 2 * k)) % len(things)] for k, (name, _, things) in enumerate(chosen)}
                case.assertIs(raised(call, {**right, **spoilt}), chosen[0][1], (call, spoilt))


def no_webs():
    return [thing for thing in junk() if not isinstance(thing, Web)] + [Web, (["ann", "bob"], [("ann", "bob")], 10)]


def no_persons(web):
    return [thing for thing in junk() if not (isinstance(thing, str) and thing in web.people)]


def is_band(web, thing):
    if type(thing) is not list or any(type(part) is not str for part in thing):
        return False
    return sorted(thing) == [person for person in web.people if person in thing]


def no_bands(web):
    people = web.people
    more = [people + ["zoe"], people + people[:1], people[:1] * 2, tuple(people), tuple(people[:1]), people[:1] + [None],
            people[:1] + [True], people[:1] + [people[:1]], people[:1] + [tuple(people[:1])], people[:1] + [web],
            {person: True for person in people}, {person: 0 for person in people}, " ".join(people), people[0],
            [people], [tuple(people)], [people[0].upper()], [people[0] + " "], ["zoe"]]
    return [thing for thing in junk() + more if not is_band(web, thing)]
