"""Texts: promise 20, and 2 as far as it is about them."""

import random
import re
import unittest

from hushweb.errors import InvalidCoins, InvalidNumbers, InvalidWeb, ParseError
from hushweb.texts import format_coins, format_numbers, format_web, parse_coins, parse_numbers, parse_web
from hushweb.webs import Web
from tests import helpers, plain
from tests.helpers import answer

NAME = "[a-z]{1,8}"
NUMBER = "(0|[1-9][0-9]*)"
# Figures of other scripts, and signs that Python takes for figures.
STRANGE = ["\u0663", "\u00b2", "\uff15", "\u2460", "\u0967", "\u00e4", "\u00a0", "\u2028", "\x0b", "\x0c", "\x1c", "\x85", "\r"]
SIGNS = list(" \n\t-=_+.0159azZ,;:'\"~!") + STRANGE


def ascending(things):
    return all(one < other for one, other in zip(things, things[1:]))


def plain_web(text):
    """What a text of a web tells, as (people, ties, modulus), or the index of the line that is wrong."""
    lines = text.split("\n") if type(text) is str else [""]
    people = lines[0].split(" ")
    if not re.fullmatch(f"{NAME}( {NAME}){{0,7}}", lines[0]) or not ascending(people):
        return 0
    ties = [tuple(word.split("-")) for word in lines[1].split(" ")] if len(lines) > 1 and lines[1] else []
    if len(lines) < 2 or not re.fullmatch(f"({NAME}-{NAME}( {NAME}-{NAME})*)?", lines[1]) or not ascending(ties):
        return 1
    if any(one not in people or other not in people or not one < other for one, other in ties):
        return 1
    if len(lines) < 3 or not re.fullmatch(NUMBER, lines[2]) or len(lines[2]) > 3 or not 2 <= int(lines[2]) <= 100:
        return 2
    return 3 if len(lines) > 3 else (people, ties, int(lines[2]))


def plain_numbers(text, names, modulus):
    """What a text of numbers tells, as the list of the numbers, or None."""
    if type(text) is not str:
        return None
    if not re.fullmatch(" ".join(f"{name}={NUMBER}" for name in names), text):
        return None
    numbers = [word.split("=")[1] for word in text.split(" ") if word]
    if any(len(number) > 3 or int(number) >= modulus for number in numbers):
        return None
    return [int(number) for number in numbers]


def spoilt_texts(rng, text, many):
    """Texts that come of one by a sign, a word or a line left out, put in, doubled, exchanged or moved."""
    out = []
    for at in range(len(text) + 1):
        out += [text[:at] + sign + text[at:] for sign in rng.sample(SIGNS, 6)]
        if at < len(text):
            out += [text[:at] + text[at + 1:], text[:at] + text[at] + text[at:]]
            out += [text[:at] + sign + text[at + 1:] for sign in rng.sample(SIGNS, 6)]
            other = rng.randrange(len(text))
            low, high = sorted([at, other])
            out.append(text[:low] + text[high] + text[low + 1:high] + text[low] + text[high + 1:] if low < high else text)
    lines = text.split("\n")
    for at, line in enumerate(lines):
        for turned in turned_lists(rng, line.split(" "), many):
            out.append("\n".join(lines[:at] + [" ".join(turned)] + lines[at + 1:]))
    out += ["\n".join(turned) for turned in turned_lists(rng, lines, many)]
    out += ["", " ", "\n", "\n\n", "\n\n\n", text + "\n", "\n" + text, " " + text, text + " ", text + "\n\n", text + text,
            text.upper(), text.replace("\n", " "), text.replace(" ", "\n"), text.replace(" ", "  "), text.replace("-", "=")]
    return out


def turned_lists(rng, words, many):
    out = [words[::-1], words + words, sorted(words, reverse=True), words + [""], [""] + words]
    for at in range(len(words)):
        out += [words[:at] + words[at + 1:], words[:at] + words[at:at + 1] + words[at:], words[1:] + words[:1]]
        for _ in range(many):
            other = rng.randrange(len(words))
            left = words[:at] + words[at + 1:]
            out.append(left[:other] + [words[at]] + left[other:])
    return out


def wrong_line(call, *arguments):
    """The line that a ParseError tells, or None."""
    try:
        call(*arguments)
    except ParseError as error:
        assert type(error) is ParseError and type(error.line) is int
        return error.line
    return None


class ThereAndBack(unittest.TestCase):
    def test_webs(self):
        for people, ties, modulus in helpers.random_webs("texts", 200):
            web = Web(people, ties, modulus)
            text = answer(self, format_web, web)
            self.assertEqual(text, "\n".join([" ".join(sorted(people)), " ".join("-".join(tie) for tie in sorted(ties)),
                                              str(modulus)]))
            self.assertEqual(parse_web(text), web)
            self.assertEqual(plain_web(text), (sorted(people), sorted(ties), modulus))

    def test_numbers_and_coins(self):
        for web, coins, messages in helpers.random_talks("numbers", 200):
            text = answer(self, format_numbers, web, messages)
            self.assertEqual(text, " ".join(f"{person}={messages[person]}" for person in sorted(messages)))
            self.assertEqual(helpers.frozen(answer(self, parse_numbers, web, text)),
                             helpers.frozen({person: messages[person] for person in web.people}))
            text = answer(self, format_coins, web, coins)
            self.assertEqual(text, " ".join(f"{one}-{other}={coins[(one, other)]}" for one, other in sorted(coins)))
            self.assertEqual(helpers.frozen(answer(self, parse_coins, web, text)),
                             helpers.frozen({tie: coins[tie] for tie in web.ties}))

    def test_the_empty_text(self):
        web = Web(["a", "b"], [], 5)
        self.assertEqual((format_coins(web, {}), parse_coins(web, "")), ("", {}))
        self.assertEqual(format_web(web), "a b\n\n5")
        self.assertEqual(wrong_line(parse_numbers, web, ""), 0)
        self.assertEqual(wrong_line(parse_coins, Web(["a", "b"], [("a", "b")], 5), ""), 0)
        for text in [" ", "\n", ".", "-", "="]:
            self.assertEqual(wrong_line(parse_coins, web, text), 0)

    def test_all_moduli_and_numbers(self):
        for modulus in range(2, 101):
            web = Web(["a"], [], modulus)
            self.assertEqual(parse_web(f"a\n\n{modulus}"), web)
            for number in range(modulus):
                self.assertEqual(parse_numbers(web, f"a={number}"), {"a": number})
            self.assertEqual(wrong_line(parse_numbers, web, f"a={modulus}"), 0)
        for modulus in ["0", "1", "101", "1000", "02", "002", "-2", "+2", "2.", "", " 2", "2 ", "1_0", "9" * 5000, "1" + "0" * 400]:
            self.assertEqual(wrong_line(parse_web, f"a\n\n{modulus}"), 2, modulus)


class Spoilt(unittest.TestCase):
    def test_webs(self):
        rng = random.Random("spoilt webs")
        lines = []
        for people, ties, modulus in helpers.random_webs("spoilt webs", 32):
            text = format_web(Web(people, ties, modulus))
            for spoilt in spoilt_texts(rng, text, 3):
                right = plain_web(spoilt)
                if type(right) is int:
                    self.assertEqual(wrong_line(parse_web, spoilt), right, repr(spoilt))
                    lines.append(right)
                else:
                    self.assertEqual(parse_web(spoilt), Web(*right))
                    lines.append(None)
        for line in [0, 1, 2, 3, None]:
            self.assertGreater(lines.count(line), 60, line)

    def test_numbers_and_coins(self):
        rng = random.Random("spoilt numbers")
        told = []
        for web, coins, messages in helpers.random_talks("spoilt numbers", 32):
            kinds = [(parse_numbers, format_numbers(web, messages), web.people, web.people),
                     (parse_coins, format_coins(web, coins), web.ties, ["-".join(tie) for tie in web.ties])]
            for call, text, keys, names in kinds:
                for spoilt in spoilt_texts(rng, text, 2):
                    right = plain_numbers(spoilt, names, web.modulus)
                    told.append(right is None)
                    if right is None:
                        self.assertEqual(wrong_line(call, web, spoilt), 0, repr(spoilt))
                    else:
                        self.assertEqual(helpers.frozen(call(web, spoilt)), helpers.frozen(dict(zip(keys, right))))
        self.assertGreater(min(told.count(True), told.count(False)), 300)

    def test_named_webs(self):
        cases = {
            "": 0, "\n\n5": 0, " a\n\n5": 0, "a \n\n5": 0, "a  b\n\n5": 0, "b a\n\n5": 0, "a a\n\n5": 0, "A\n\n5": 0,
            "abcdefghi\n\n5": 0, "a b c d e f g h i\n\n5": 0, "a\tb\n\n5": 0, "a,b\n\n5": 0, "a1\n\n5": 0, "\n": 0,
            "a b": 1, "a b\na-c\n5": 1, "a b\nb-a\n5": 1, "a b\na-a\n5": 1, "a b\na-b a-b\n5": 1, "a b c\na-c a-b\n5": 1,
            "a b\na-b \n5": 1, "a b\n a-b\n5": 1, "a b\na b\n5": 1, "a b\na-b-c\n5": 1, "a b\na\n5": 1, "a b\n-\n5": 1,
            "a b\n \n5": 1, "a b c\na-b  a-c\n5": 1, "a b\n5": 1, "a b\na=b\n5": 1, "a b\na-\n5": 1, "a b\n\ta-b\n5": 1,
            "a b\n": 2, "a b\n\n": 2, "a b\n\n1": 2, "a b\n\n101": 2, "a b\n\n05": 2, "a b\n\n5 ": 2, "a b\n\n 5": 2,
            "a b\n\n+5": 2, "a b\n\n-5": 2, "a b\n\nfive": 2, "a b\n\n5 5": 2, "a b\n\n\u0665": 2, "a b\n\n\u00b2": 2,
            "a b\n\n5\t": 2, "a b\na-b": 2, "a b\na-b\n": 2, "a b\n\n\n5": 2, "a b\n\n5.0": 2, "a b\n\n5\r": 2,
            "a b\n\n5\n": 3, "a b\n\n5\n5": 3, "a b\na-b\n5\n\n\n": 3, "a b\n\n5\na b": 3,
            "b a\na-c\n1\n": 0, "a b\na-c\n1\n": 1, "a b\n\n1\n": 2,
        }
        for text, line in cases.items():
            self.assertEqual(wrong_line(parse_web, text), line, repr(text))
        for text in ["a\n\n2", "a b\na-b\n100", "abcdefgh\n\n99", "a b c d e f g h\n\n5", "ann anna\nann-anna\n10"]:
            self.assertIsNone(wrong_line(parse_web, text), text)

    def test_named_numbers(self):
        web = Web(["ann", "bob"], [("ann", "bob")], 12)
        self.assertEqual(parse_numbers(web, "ann=11 bob=0"), {"ann": 11, "bob": 0})
        self.assertEqual(parse_coins(web, "ann-bob=10"), {("ann", "bob"): 10})
        for text in ["", "ann=1", "bob=0 ann=11", "ann=11 bob=0 ", " ann=11 bob=0", "ann=11  bob=0", "ann=12 bob=0", "ann=-1 bob=0",
                     "ann=+1 bob=0", "ann=01 bob=0", "ann=00 bob=0", "ann= bob=0", "ann bob=0", "ann=1 bob=0 bob=0", "ann==1 bob=0",
                     "ann=1=1 bob=0", "ann=1 bob=0 cy=0", "ann=1 ann=1", "ann=\u0661 bob=0", "ann=\u00b2 bob=0", "ann=1\tbob=0",
                     "ann=1\nbob=0", "ann=1 bob=0\n", "ann-bob=10", "Ann=1 bob=0", "ann =1 bob=0", "ann=1 bob=1_0", "."]:
            self.assertEqual(wrong_line(parse_numbers, web, text), 0, repr(text))
        for text in ["", "ann-bob=12", "bob-ann=1", "ann-bob=01", "ann-bob=-1", "ann-bob", "ann-bob=", "ann=1", "ann-bob=1 ",
                     "ann-bob=1 ann-bob=1", "ann-bob-=1", "annbob=1", "ann-bob=\u0661", "ann-bob=1\n", "-=1", "ann-bob=1=", "."]:
            self.assertEqual(wrong_line(parse_coins, web, text), 0, repr(text))


class Wrong(unittest.TestCase):
    def test_wrong_arguments_for_formats(self):
        web, coins, messages = helpers.example_web(), helpers.example_coins(), helpers.example_messages()
        wrong = [("web", InvalidWeb, helpers.no_webs())]
        helpers.check_errors(self, format_web, {"web": web}, wrong)
        helpers.check_errors(self, format_numbers, {"web": web, "numbers": messages},
                             wrong + [("numbers", InvalidNumbers, helpers.no_numbers(messages, 10) + [coins])])
        helpers.check_errors(self, format_coins, {"web": web, "coins": coins},
                             wrong + [("coins", InvalidCoins, helpers.no_numbers(coins, 10) + [messages])])

    def test_wrong_arguments_for_parsers(self):
        web, coins, messages = helpers.example_web(), helpers.example_coins(), helpers.example_messages()
        texts = [format_web(web), format_numbers(web, messages), format_coins(web, coins)]
        things = helpers.junk() + [[text] for text in texts] + [(text,) for text in texts] + [{text: text} for text in texts]
        things += [list(text) for text in texts] + [text.encode() for text in texts]
        for thing in things:
            before = helpers.frozen(thing)
            self.assertEqual(wrong_line(parse_web, thing), plain_web(thing), thing)
            self.assertEqual(wrong_line(parse_numbers, web, thing), 0)
            self.assertEqual(wrong_line(parse_coins, web, thing), 0)
            self.assertEqual(helpers.frozen(thing), before)
        wrong = [("web", InvalidWeb, helpers.no_webs()), ("text", ParseError, things)]
        helpers.check_errors(self, parse_web, {"text": texts[0]}, wrong[1:])
        helpers.check_errors(self, parse_numbers, {"web": web, "text": texts[1]}, wrong)
        helpers.check_errors(self, parse_coins, {"web": web, "text": texts[2]}, wrong)

    def test_texts_of_one_kind_for_another(self):
        web = helpers.example_web()
        texts = {parse_web: format_web(web), parse_numbers: format_numbers(web, helpers.example_messages()),
                 parse_coins: format_coins(web, helpers.example_coins())}
        for call in texts:
            for other in texts:
                arguments = [texts[other]] if call is parse_web else [web, texts[other]]
                self.assertEqual(wrong_line(call, *arguments), None if call is other else 0)

    def test_all_parameters_by_name(self):
        web = Web(["a", "b"], [("a", "b")], 5)
        self.assertEqual(format_web(web=web), "a b\na-b\n5")
        self.assertEqual(format_numbers(numbers={"b": 1, "a": 0}, web=web), "a=0 b=1")
        self.assertEqual(format_coins(coins={("a", "b"): 4}, web=web), "a-b=4")
        self.assertEqual(parse_web(text="a b\na-b\n5"), web)
        self.assertEqual(parse_numbers(text="a=0 b=1", web=web), {"a": 0, "b": 1})
        self.assertEqual(parse_coins(text="a-b=4", web=web), {("a", "b"): 4})

    def test_what_is_told_is_new(self):
        web = Web(["a", "b"], [("a", "b")], 5)
        for call, text in [(parse_numbers, "a=0 b=1"), (parse_coins, "a-b=4")]:
            self.assertTrue(helpers.all_new(call(web, text), call(web, text)))
            call(web, text).clear()
        self.assertEqual(plain.gives_numbers(parse_coins(web, "a-b=4"), web.ties, 5), True)
        parse_web("a b\na-b\n5").people.clear()
        self.assertEqual(parse_web("a b\na-b\n5"), web)


if __name__ == "__main__":
    unittest.main()
