"""What several tests need: objects of all kinds, right and spoilt values, and the webs they are tried with."""

import inspect
import itertools
import random

from hushweb.errors import HushError, InvalidWeb, ParseError
from hushweb.room import Room
from hushweb.shell import Shell
from hushweb.views import view
from hushweb.webs import Web
from tests import plain

NAMES = ["ann", "bob", "cy", "dee", "eve", "f", "gregoryx", "zz"]


def example_web():
    ties = [("ann", "bob"), ("bob", "cy"), ("ann", "cy"), ("cy", "dee"), ("dee", "eve")]
    return Web(["ann", "bob", "cy", "dee", "eve"], ties, 10)


def example_coins():
    return {("ann", "bob"): 3, ("ann", "cy"): 4, ("bob", "cy"): 9, ("cy", "dee"): 1, ("dee", "eve"): 6}


def example_messages():
    return {"ann": 0, "bob": 7, "cy": 0, "dee": 0, "eve": 0}


def example_room():
    """A room of three talks: of coins that serve one, two and three of them, and of people who come and go."""
    room = Room(10)
    for name in ["cy", "ann", "bob"]:
        room.join(name)
    room.tie("bob", "ann", 3)
    room.tie("bob", "cy", 9)
    room.talk({"bob": 7})
    room.tie("ann", "cy", 4)
    room.tie("bob", "cy", 9)
    room.talk({})
    room.leave("cy")
    room.join("dee")
    room.tie("dee", "ann", 1)
    room.talk({"ann": 1, "bob": 0, "dee": 9})
    return room


def example_shell():
    shell = Shell()
    for line in ["web w ann_bob_cy/ann-bob_bob-cy/10", "coins w ann-bob=3_bob-cy=9", "talk w ann=0_bob=7_cy=0"]:
        shell.run(line)
    return shell


def all_ties(people):
    return list(itertools.combinations(sorted(people), 2))


def bands(people):
    for many in range(len(people) + 1):
        for band in itertools.combinations(people, many):
            yield list(band)


def random_webs(seed, many):
    """Webs of one to eight people, without ties, with all ties and with some, handed in in mixed orders."""
    rng = random.Random(seed)
    for at in range(many):
        people = rng.sample(NAMES, 1 + at % 8)
        chance = rng.choice([0, 0.15, 0.3, 0.5, 0.8, 1])
        ties = [tie for tie in all_ties(people) if rng.random() < chance]
        rng.shuffle(ties)
        yield people, ties, rng.choice([2, 3, 5, 10, 99, 100])


def random_talks(seed, many):
    """Webs of one to eight people with coins and messages."""
    rng = random.Random(seed)
    for people, ties, modulus in random_webs(seed, many):
        coins = random_numbers(rng, ties, modulus)
        yield Web(people, ties, modulus), coins, random_numbers(rng, people, modulus)


def random_views(seed, many):
    """Webs of one to eight people with views of bands in any order, also of nobody and of all."""
    rng = random.Random(seed)
    for web, coins, messages in random_talks(seed, many):
        size = rng.choice([0, 0, 1, 1, 2, 3, len(web.people)])
        yield web, view(web, rng.sample(web.people, min(size, len(web.people))), coins, messages)


def small_views(seed):
    """Webs so small that all deals of coins can be gone through, with views of all bands."""
    rng = random.Random(seed)
    kinds = [(1, 0, 5), (1, 0, 100), (2, 0, 3), (2, 1, 5), (2, 1, 100), (3, 1, 5), (3, 2, 3), (3, 3, 2), (3, 3, 5),
             (4, 2, 3), (4, 3, 3), (4, 4, 3), (4, 5, 2), (4, 6, 2), (5, 4, 2), (5, 6, 2)]
    for many, size, modulus in kinds:
        people = rng.sample(NAMES, many)
        web = Web(people, rng.sample(all_ties(people), size), modulus)
        for band in bands(people):
            coins, messages = random_numbers(rng, web.ties, modulus), random_numbers(rng, people, modulus)
            yield web, view(web, rng.sample(band, len(band)), coins, messages)


def random_numbers(rng, keys, modulus):
    """A dict from the keys, in a mixed order, to numbers, the least and the greatest one often among them."""
    keys = list(keys)
    rng.shuffle(keys)
    return {key: rng.choice([0, modulus - 1, rng.randrange(modulus)]) for key in keys}


def nested(kind, depth):
    thing = 1
    for _ in range(depth):
        thing = {"list": lambda x: [x], "tuple": lambda x: (x,), "dict": lambda x: {"ann": x}}[kind](thing)
    return thing


def junk():
    """New objects of all kinds; some of them are right in some places."""
    web, room = example_web(), example_room()
    return [
        None, True, False, 0, 1, 2, 7, -1, 100, 101, 10 ** 39, -(10 ** 39),
        "", "ann", "zoe", "Ann", "abcdefgh", "abcdefghi", "a b", "a\tb\n", "[]", "0", "~ !",
        (), (1,), ("ann",), ("ann", "bob"), ("bob", "ann"), ("ann", "ann"), ("zoe", "zz"), ((), ()),
        ("ann", "bob", "cy"), (("ann", "bob"), 1), (None, True, 1, ("a", (1,))), (["ann"], ["bob"]),
        [], [None], [1], [True], [[]], [{}], [()], ["ann"], ["ann", "ann"], ["ann", "zoe"], ["zoe"], [["ann"]],
        [("ann",)], [("ann", "bob")], [["ann", "bob"]], ["bob", ["ann"]], [{"ann": 1}], list(range(4000)),
        ["ann"] * 4000, [("ann", "bob")] * 2,
        {}, {"ann": 1}, {1: 1}, {None: None}, {True: False}, {(): []}, {("ann", "bob"): 1}, {"ann": {"bob": [1]}},
        {("ann", ("bob", (None, True))): 1}, {index: index for index in range(2000)},
        example_coins(), example_messages(),
        nested("list", 30), nested("tuple", 30), nested("dict", 30),
        web, [web], (web,), {"ann": web}, (web, web), [web, "ann"], Web(["a"], [], 2),
        HushError("no"), InvalidWeb("no"), ParseError(1), [HushError("no")],
        room, [room], (room, web), {"ann": room}, Room(2), example_shell(), [Shell()], room.talks, room.seen(1, ["bob"]),
    ]


def spoilt_dicts(right, modulus):
    """Objects that are nearly a dict from the right one's keys to numbers, but not one."""
    out = [list(right.items()), tuple(right.items()), list(right), tuple(right), list(right.values()), [dict(right)],
           (dict(right),), str(right)]
    strangers = ["zoe", "", 0, 1, True, None, (), ("ann",), ("bob", "ann"), ("ann", "ann"), ("ann", "bob", "cy"),
                 ("ann", "zoe"), (("ann", "bob"), 0), ("ann", ("bob",)), "ann-bob", ("gregoryx", "ann")]
    for stranger in strangers:
        if stranger not in right:
            out.append({**right, stranger: 0})
            for key in right:
                out.append({(stranger if old == key else old): right[old] for old in right})
    wrong = [-1, modulus, modulus + 1, 10 ** 39, -(10 ** 39), None, True, False, "0", "1", "", (), (1,), [], [1], {},
             {"ann": 1}, example_web(), nested("list", 29), ParseError(0)]
    for key in right:
        out.append({old: right[old] for old in right if old != key})
        out += [{**right, key: value} for value in wrong]
    return out


def frozen(thing):
    """What an object is throughout, as tuples that tell the kinds, too: two alike are equal just if they are alike."""
    if isinstance(thing, (list, tuple)):
        return (type(thing).__name__, tuple(frozen(part) for part in thing))
    if isinstance(thing, dict):
        return ("dict", tuple((frozen(key), frozen(thing[key])) for key in thing))
    if isinstance(thing, Web):
        return ("Web", frozen(thing.people), frozen(thing.ties), thing.modulus)
    if isinstance(thing, HushError):
        return (type(thing).__name__, str(thing))
    if isinstance(thing, Room):
        return ("Room", frozen(thing.people), frozen(thing.coins), frozen(thing.talks), len(thing))
    if isinstance(thing, Shell):
        return ("Shell", thing.run("webs"))
    return (type(thing).__name__, thing)


def containers(thing):
    """All lists and dicts within an object, itself among them, each as often as it stands there."""
    out = [thing] if isinstance(thing, (list, dict)) else []
    if isinstance(thing, dict):
        thing = list(thing.keys()) + list(thing.values())
    if isinstance(thing, (list, tuple)):
        for part in thing:
            out += containers(part)
    return out


def all_new(*things):
    """Whether no list and no dict stands twice in these."""
    found = [id(part) for thing in things for part in containers(thing)]
    return len(set(found)) == len(found)


def raised(call, arguments):
    """The kind of the error that a call raises, or None; the arguments are told by name."""
    try:
        call(**arguments)
    except HushError as error:
        return type(error)
    return None


def check_errors(case, call, right, wrong):
    """Try wrong arguments, alone and several at once.

    right: the right arguments, by name. wrong: tuples (name, error, wrong objects), in the order in which the
    document lists the errors.
    """
    case.assertIsNone(raised(call, right))
    for name, error, things in wrong:
        for thing in things:
            before = frozen(thing)
            case.assertIs(raised(call, {**right, name: thing}), error, (call, name, thing))
            case.assertEqual(frozen(thing), before)
    for many in range(2, len(wrong) + 1):
        for chosen in itertools.combinations(wrong, many):
            longest = max(len(things) for _, _, things in chosen)
            for at in range(longest):
                spoilt = {name: things[(at * (1 + 2 * k)) % len(things)] for k, (name, _, things) in enumerate(chosen)}
                case.assertIs(raised(call, {**right, **spoilt}), chosen[0][1], (call, spoilt))


def no_webs():
    return [thing for thing in junk() if not isinstance(thing, Web)] + [Web, (["ann", "bob"], [("ann", "bob")], 10)]


def no_persons(web):
    return [thing for thing in junk() if not (isinstance(thing, str) and thing in web.people)]


def is_band(web, thing):
    if type(thing) is not list or any(type(part) is not str for part in thing):
        return False
    return sorted(thing) == [person for person in web.people if person in thing]


def no_bands(web):
    people = web.people
    more = [people + ["zoe"], people + people[:1], people[:1] * 2, tuple(people), tuple(people[:1]), people[:1] + [None],
            people[:1] + [True], people[:1] + [people[:1]], people[:1] + [tuple(people[:1])], people[:1] + [web],
            {person: True for person in people}, {person: 0 for person in people}, " ".join(people), people[0],
            [people], [tuple(people)], [people[0].upper()], [people[0] + " "], ["zoe"]]
    return [thing for thing in junk() + more if not is_band(web, thing)]


def no_numbers(right, modulus):
    """Objects that are no dict from the keys of the right one to numbers."""
    return [thing for thing in junk() + spoilt_dicts(right, modulus)
            if not plain.gives_numbers(thing, list(right), modulus)]


def near_views(web, seen):
    """Objects that are nearly a view, some of which are one."""
    band, own, coins, sayings = seen
    out = [list(seen), seen[:3], seen + (None,), seen + seen, seen[::-1], (seen,), [seen], {"view": seen}, ()]
    out += [(band, own, sayings), (band, own, coins, sayings, sayings), (own, coins, sayings), (own, band, coins, sayings)]
    out.append((band, coins, own, sayings))
    out += [(thing, own, coins, sayings) for thing in no_bands(web)]
    out += [(thing, own, coins, sayings) for thing in bands(web.people)]
    out += [(band[::-1], own, coins, sayings), (tuple(band), own, coins, sayings), (band * 2, own, coins, sayings)]
    for at, part in [(1, own), (2, coins), (3, sayings)]:
        for thing in junk() + spoilt_dicts(part, web.modulus) + [dict(reversed(part.items()))]:
            out.append(seen[:at] + (thing,) + seen[at + 1:])
        for key in part:
            turned = {**part, key: (part[key] + 1) % web.modulus}
            out.append(seen[:at] + (turned,) + seen[at + 1:])
    for person in band:
        more = {**own, person: (own[person] + 1) % web.modulus}
        said = {**sayings, person: (sayings[person] + 1) % web.modulus}
        out += [(band, more, coins, said), (band, more, coins, {**said, person: sayings[person]})]
    return out


def no_views(web, seen):
    """Objects that are no view of a web: of all kinds, and such as are nearly one."""
    return [thing for thing in junk() + near_views(web, seen) if not plain.is_view(web, thing)]


def answer(case, call, *arguments):
    """What a call returns, told by position and by name; the arguments stay, and what is returned is new."""
    names = list(inspect.signature(call).parameters)
    before = frozen(list(arguments))
    found, again = call(*arguments), call(**dict(zip(names, arguments)))
    told = frozen(found)
    case.assertEqual(frozen(again), told)
    case.assertEqual(frozen(list(arguments)), before)
    case.assertTrue(all_new(found, again))
    handed = [id(part) for part in containers(list(arguments))]
    case.assertEqual([part for part in containers([found, again])[1:] if id(part) in handed], [])
    for part in containers(again):
        part.clear()
    case.assertEqual((frozen(found), frozen(list(arguments))), (told, before))
    case.assertEqual(frozen(call(*arguments)), told)
    return found
