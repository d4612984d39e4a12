"""The whole program: promises 1 and 2 over all stages, asked in turn."""

import random
import unittest

from hushweb.again import changes, may_again, rows_again, speakers_again
from hushweb.cases import case_tree, is_case_tree
from hushweb.errors import HushError
from hushweb.freecoins import bearing_with, free_ties, is_free
from hushweb.histories import against, bears_all, deal_of, deals_all, may_all, served, speaks_against
from hushweb.known import bearing, bears, deals, may, rows, sums
from hushweb.lone import lone, parts
from hushweb.openings import are_liars, fewest_liars, in_fewest, is_opening, torn, unfit
from hushweb.pools import opened, pooled
from hushweb.roads import are_roads, least_band, roads
from hushweb.room import Room
from hushweb.shell import Shell
from hushweb.strength import strength, strong_web, weakest
from hushweb.talks import are_coins, are_numbers, heard, say
from hushweb.texts import format_coins, format_numbers, format_web, parse_coins, parse_numbers, parse_web
from hushweb.turns import fewest_turns, timetable, unheard
from hushweb.views import is_view, joined, view
from hushweb.votes import sure, vote_rows, yeses
from hushweb.webs import Web, pieces, tied, ties_of
from tests import helpers
from tests.helpers import answer
from tests.test_openings import honest


def web_calls(web, coins, messages, seen, other):
    """Calls of all stages about a web, its coins and messages, and two views of a talk with them."""
    band, people = seen[0], web.people
    sayings = seen[3]
    one, last = people[0], people[-1]
    opening = honest(web, coins)
    opening[one] = {tie: (number + 1) % web.modulus for tie, number in opening[one].items()}
    shown = {tie: coins[tie] for tie in web.ties[::2]}
    calls = [(tied, web, one, last), (ties_of, web, one), (pieces, web, band), (are_coins, web, coins), (are_numbers, web, messages),
             (say, web, coins, messages), (heard, web, sayings), (view, web, band, coins, messages), (is_view, web, seen),
             (joined, web, seen, other), (sums, web, seen), (may, web, seen, messages), (deals, web, seen, messages),
             (bearing, web, seen, messages), (bears, web, seen, messages, coins), (rows, web, seen), (lone, web, seen),
             (parts, web, [], one, last), (roads, web, one, last), (least_band, web, one, last),
             (are_roads, web, one, last, [[one, last]]), (strength, web), (weakest, web), (strong_web, people, 1, web.modulus),
             (yeses, web, seen), (vote_rows, web, seen), (sure, web, seen), (changes, web, seen, [sayings]),
             (may_again, web, seen, [sayings], [messages, messages]), (rows_again, web, seen, [sayings]),
             (speakers_again, web, seen, [sayings]), (timetable, people), (fewest_turns, len(people)), (unheard, timetable(people), 3),
             (is_opening, web, opening), (torn, web, opening), (unfit, web, opening, sayings), (fewest_liars, web, opening, sayings),
             (are_liars, web, opening, sayings, [one]), (in_fewest, web, opening, sayings), (format_web, web),
             (format_numbers, web, messages), (format_coins, web, coins), (parse_web, format_web(web)),
             (parse_numbers, web, format_numbers(web, messages)), (parse_coins, web, format_coins(web, coins)),
             (free_ties, web, band), (is_free, web, band, free_ties(web, band)),
             (bearing_with, web, seen, messages, {tie: 1 for tie in free_ties(web, band)}), (pooled, web, seen, other),
             (opened, web, seen, shown)]
    return calls + [(call, web, opening, sayings, size, *told) for size in (0, 3, 7) for call, told in
                    [(case_tree, ()), (is_case_tree, ((),)), (is_case_tree, (None,))]]


def wrong_calls(web, coins, messages, seen, room):
    """Calls that are refused, of all stages."""
    return [(tied, web, "zoe", None), (pieces, web, ["zoe"]), (say, web, messages, coins), (view, web, None, coins, messages),
            (joined, web, seen, coins), (may, web, seen, coins), (parts, web, web.people, web.people[0], web.people[0]),
            (roads, web, web.people[0], web.people[0]), (strong_web, web.people, 7, 1), (yeses, web, None),
            (changes, web, seen, []), (timetable, []), (torn, web, coins), (format_coins, web, messages), (parse_web, "a\nb"),
            (free_ties, web, [1]), (bearing_with, web, seen, messages, {None: 1}), (pooled, web, None, seen), (opened, web, seen, []),
            (case_tree, web, coins, messages, 1), (room.join, "A"), (room.leave, "zoe"), (room.tie, "zoe", "zoe", 1),
            (room.untie, 1, 2), (room.talk, {"zoe": 1}), (room.seen, 99, []), (room.known, [], [None]), (room.known, ["zoe"], []),
            (may_all, room, ["zoe"], []), (deals_all, room, [], [1]), (against, room, [], None), (bears_all, room, [], {}, {})]


def room_calls(room):
    """Calls that ask about a room."""
    talks = room.talks
    lists = [room.seen(index, web.people)[1] for index, (web, _) in enumerate(talks)]
    moved = [dict(messages) for messages in lists]
    if moved:
        moved[0][min(moved[0])] = (moved[0][min(moved[0])] + 1) % talks[0][0].modulus
    calls = [(served, room), (room.web,)]
    for band in [[], [talks[0][0].people[0]] if talks else []]:
        calls += [(room.seen, index, [one for one in band if one in talks[index][0].people]) for index in range(len(talks))]
        for told in (lists, moved):
            deal, weights = deal_of(room, band, told), against(room, band, told)
            calls += [(room.known, band, told), (may_all, room, band, told), (deals_all, room, band, told), (deal_of, room, band, told),
                      (against, room, band, told), (bears_all, room, band, told, deal), (speaks_against, room, band, told, weights),
                      (speaks_against, room, band, told, deal), (bears_all, room, band, told, weights)]
    return calls


def told_by(call, arguments):
    """What a call tells, or the kind of the error that it raises."""
    try:
        return helpers.frozen(call(*arguments))
    except HushError as error:
        return type(error)


def random_talk(rng):
    people = rng.sample(helpers.NAMES, rng.randrange(2, 8))
    ties = rng.sample(helpers.all_ties(people), rng.randrange(len(helpers.all_ties(people)) + 1))
    web = Web(people, ties, rng.choice([2, 9, 10, 97, 100]))
    coins = helpers.random_numbers(rng, ties, web.modulus)
    messages = rng.choice([helpers.random_numbers(rng, people, web.modulus), {person: rng.randrange(2) for person in people}])
    return web, coins, messages, rng.sample(people, rng.randrange(len(people))), rng.sample(people, rng.randrange(len(people)))


def room_of(web, coins, messages):
    """A room in which a talk of a web stands, behind another one with other coins."""
    room = Room(web.modulus)
    for person in web.people:
        room.join(person)
    for one, other in web.ties:
        room.tie(other, one, 0)
    room.talk({})
    for tie, number in coins.items():
        room.tie(*tie, number)
    room.talk(messages)
    return room


class Whole(unittest.TestCase):
    def test_calls_of_all_stages_in_turn(self):
        rng = random.Random("in turn")
        refused = 0
        for _ in range(12):
            web, coins, messages, band, other = random_talk(rng)
            seen, further = view(web, band, coins, messages), view(web, other, coins, messages)
            room = room_of(web, coins, messages)
            calls = web_calls(web, coins, messages, seen, further) + room_calls(room)
            # What each gives alone, asked of webs and rooms that nobody else asks.
            alone = []
            for at in range(len(calls)):
                fresh = Web(web.people, web.ties, web.modulus)
                again = web_calls(fresh, dict(coins), dict(messages), view(fresh, band, coins, messages),
                                  view(fresh, other, coins, messages)) + room_calls(room_of(web, coins, messages))
                alone.append(told_by(again[at][0], again[at][1:]))
            before = helpers.frozen([web, coins, messages, seen, further, room])
            order = [*range(len(calls)), *range(len(calls))]
            rng.shuffle(order)
            wrong = wrong_calls(web, coins, messages, seen, room)
            for at in order:
                call, *arguments = rng.choice(wrong)
                self.assertIsInstance(told_by(call, arguments), type, call)
                refused += 1
                self.assertEqual(told_by(calls[at][0], calls[at][1:]), alone[at], calls[at][0])
            self.assertEqual(helpers.frozen([web, coins, messages, seen, further, room]), before)
        self.assertGreater(refused, 1000)

    def test_what_texts_and_rooms_tell_is_as_good_as_what_it_was_made_of(self):
        rng = random.Random("as good")
        for _ in range(20):
            web, coins, messages, band, other = random_talk(rng)
            right = [told_by(call[0], call[1:]) for call in
                     web_calls(web, coins, messages, view(web, band, coins, messages), view(web, other, coins, messages))]
            read = parse_web(format_web(web))
            read_coins, read_messages = parse_coins(read, format_coins(web, coins)), parse_numbers(read, format_numbers(web, messages))
            texts = web_calls(read, read_coins, read_messages, view(read, band, read_coins, read_messages),
                              view(read, other, read_coins, read_messages))
            room = room_of(web, coins, messages)
            told = room.talks[1][0]
            rooms = web_calls(told, room.coins, room.seen(1, told.people)[1], room.seen(1, band), room.seen(1, other))
            for calls in (texts, rooms, web_calls(room.web(), room.coins, messages, room.copy().seen(1, band), room.seen(1, other))):
                self.assertEqual([told_by(call[0], call[1:]) for call in calls], right)

    def test_all_that_is_told_is_new_and_all_that_is_handed_in_stays(self):
        rng = random.Random("new")
        for _ in range(8):
            web, coins, messages, band, other = random_talk(rng)
            room = room_of(web, coins, messages)
            calls = web_calls(web, coins, messages, view(web, band, coins, messages), view(web, other, coins, messages))
            before = helpers.frozen([web, room])
            for call, *arguments in calls + room_calls(room):
                if not isinstance(told_by(call, arguments), type):
                    answer(self, call, *arguments)
            self.assertEqual(helpers.frozen([web, room]), before)

    def test_a_shell_answers_as_the_calls_do(self):
        rng = random.Random("shell")
        for _ in range(30):
            web, coins, messages, band, _ = random_talk(rng)
            shell = Shell()
            texts = {"web": format_web(web), "coins": format_coins(web, coins), "talk": format_numbers(web, messages)}
            for first, text in texts.items():
                word = text.replace(" ", "_").replace("\n", "/") or "."
                self.assertEqual(shell.run(f"{first} w {word}"), "ok")
            seen = view(web, band, coins, messages)
            names = "+".join(band) or "."
            self.assertEqual(shell.run(f"rows w {names}"), str(rows(web, seen)))
            self.assertEqual(shell.run(f"deals w {names}"), str(deals(web, seen, messages)))
            self.assertEqual(shell.run(f"sums w {names}").count("="), len(sums(web, seen)))
            self.assertEqual(shell.run("strength w"), str(strength(web) if strength(web) is not None else "none"))


if __name__ == "__main__":
    unittest.main()
