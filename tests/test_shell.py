"""The shell: promise 21, and 2 as far as it is about it."""

import inspect
import random
import unittest

from hushweb import errors
from hushweb.errors import (HushError, InvalidBand, InvalidLine, InvalidName, NoCoins, NoTalk, ParseError, SamePerson,
                            UnknownName, UnknownPerson)
from hushweb.shell import Shell
from hushweb.texts import format_coins, format_numbers, format_web, parse_coins, parse_numbers, parse_web
from hushweb.views import view
from hushweb.webs import Web
from tests import helpers, plain
from tests.test_texts import wrong_line

LENGTHS = {"web": 3, "coins": 3, "talk": 3, "sums": 3, "lone": 3, "rows": 3, "deals": 3, "pieces": 3, "part": 4, "strength": 2,
           "webs": 1}


def word_of(text):
    return text.replace(" ", "_").replace("\n", "/") or "."


def text_of(word):
    return "" if word == "." else word.replace("_", " ").replace("/", "\n")


def raised(shell, line):
    try:
        shell.run(line)
    except HushError as error:
        return type(error)
    return None


class PlainShell:
    """The words of the document about the shell, read one after the other."""

    def __init__(self):
        self.webs = {}

    def run(self, line):
        """The answer, or the error that has to be raised."""
        if type(line) is not str or "\n" in line or "  " in line or line[:1] in ("", " ") or line[-1:] == " ":
            return InvalidLine
        first, *told = line.split(" ")
        if LENGTHS.get(first) != len(told) + 1:
            return InvalidLine
        return getattr(self, "do_" + first)(*told)

    def do_webs(self):
        return " ".join(sorted(self.webs)) or "-"

    def do_web(self, name, text):
        if not (1 <= len(name) <= 8 and all(letter in "abcdefghijklmnopqrstuvwxyz" for letter in name)):
            return InvalidName
        if wrong_line(parse_web, text_of(text)) is not None:
            return ParseError
        self.webs[name] = [parse_web(text_of(text)), None, None]
        return "ok"

    def do_coins(self, name, text):
        if name not in self.webs:
            return UnknownName
        web = self.webs[name][0]
        if wrong_line(parse_coins, web, text_of(text)) is not None:
            return ParseError
        self.webs[name] = [web, parse_coins(web, text_of(text)), None]
        return "ok"

    def do_talk(self, name, text):
        if name not in self.webs:
            return UnknownName
        web, coins, _ = self.webs[name]
        if coins is None:
            return NoCoins
        if wrong_line(parse_numbers, web, text_of(text)) is not None:
            return ParseError
        self.webs[name] = [web, coins, parse_numbers(web, text_of(text))]
        return "ok"

    def band(self, name, word, talk=True):
        if name not in self.webs:
            return UnknownName
        web, _, messages = self.webs[name]
        if talk and messages is None:
            return NoTalk
        band = [] if word == "." else word.split("+")
        return band if len(set(band)) == len(band) and set(band) <= set(web.people) else InvalidBand

    def do_pieces(self, name, word):
        band = self.band(name, word, talk=False)
        if type(band) is not list:
            return band
        web = self.webs[name][0]
        return " ".join("+".join(piece) for piece in plain.pieces(web.people, web.ties, band)) or "-"

    def do_sums(self, name, word):
        band = self.band(name, word)
        if type(band) is not list:
            return band
        web, coins, messages = self.webs[name]
        told = plain.sums(web, view(web, band, coins, messages))
        return " ".join(f"{'+'.join(piece)}={number}" for piece, number in told) or "-"

    def do_rows(self, name, word):
        band = self.band(name, word)
        if type(band) is not list:
            return band
        web = self.webs[name][0]
        outside = len(web.people) - len(band)
        return str(web.modulus ** (outside - len(plain.pieces(web.people, web.ties, band))))

    def do_deals(self, name, word):
        band = self.band(name, word)
        if type(band) is not list:
            return band
        web = self.webs[name][0]
        closed = [tie for tie in web.ties if not set(tie) & set(band)]
        outside = len(web.people) - len(band)
        return str(web.modulus ** (len(closed) - outside + len(plain.pieces(web.people, web.ties, band))))

    def do_lone(self, name, word):
        band = self.band(name, word)
        if type(band) is not list:
            return band
        web, coins, messages = self.webs[name]
        seen = view(web, band, coins, messages)
        lone = [row for row in plain.lone_messages(web) if plain.may(web, seen, row)]
        if not lone:
            return "none"
        if not any(lone[0].values()):
            return "0"
        told = sorted((person, row[person]) for row in lone for person in row if row[person])
        return " ".join([str(told[0][1])] + [person for person, _ in told])

    def do_part(self, name, one, other):
        if name not in self.webs:
            return UnknownName
        web = self.webs[name][0]
        if one not in web.people or other not in web.people:
            return UnknownPerson
        if one == other:
            return SamePerson
        least = plain.least_band(web, one, other)
        return "none" if least is None else str(least)

    def do_strength(self, name):
        if name not in self.webs:
            return UnknownName
        least = plain.strength(self.webs[name][0])
        return "none" if least is None else str(least)


def some_word(rng, name, web):
    """A band as a word, right or nearly so."""
    band = rng.sample(web.people, rng.choice([0, 1, 2, len(web.people), rng.randrange(len(web.people) + 1)]) % (len(web.people) + 1))
    word = "+".join(band) or "."
    return word if rng.random() < 0.8 else rng.choice([word + "+", "+" + word, word + "+" + word, "+", "", "zoe", word + ".",
                                                       ".+" + word, word.upper(), word.replace("+", "++"), word + "\t", "-"])


def some_line(rng, kept):
    """A line for a shell in which these webs may be, right or nearly so."""
    name = rng.choice(sorted(kept))
    web = kept[name]
    first = rng.choice(list(LENGTHS) + ["sums", "lone", "talk", "coins", "talk", "coins"])
    told = [name if rng.random() < 0.95 else rng.choice(["nobody", "", "W", "toolongname", "w\t"])]
    if first == "web":
        told.append(word_of(format_web(web)))
    elif first == "coins":
        told.append(word_of(format_coins(web, helpers.random_numbers(rng, web.ties, web.modulus))))
    elif first == "talk":
        silent = {person: 0 for person in web.people}
        numbers = rng.choice([silent, {**silent, rng.choice(web.people): 1}, helpers.random_numbers(rng, web.people, web.modulus)])
        told.append(word_of(format_numbers(web, numbers)))
    elif first == "part":
        told += [rng.choice(web.people + ["zoe"] * (rng.random() < 0.2)) for _ in range(2)]
    elif first == "webs":
        told = []
    elif first != "strength":
        told.append(some_word(rng, name, web))
    line = " ".join([first] + told)
    if rng.random() < 0.15:
        at = rng.randrange(len(line) + 1)
        line = rng.choice([line[:at] + rng.choice(" \t\n_/.+=-a0") + line[at:], line[:at] + line[at + 1:], line + " ", " " + line,
                           line + " " + line, line[:at], line.upper()])
    return line


class Walks(unittest.TestCase):
    def test_random_lines(self):
        rng = random.Random("shell")
        kinds = []
        for _ in range(90):
            shell, right = Shell(), PlainShell()
            webs = list(helpers.random_webs(str(rng.random()), 8))
            kept = {name: Web(*rng.choice(webs)) for name in ["w", "ring", "abcdefgh"]}
            for name in kept:
                if rng.random() < 0.8:
                    line = f"web {name} {word_of(format_web(kept[name]))}"
                    self.assertEqual((shell.run(line), right.run(line)), ("ok", "ok"))
            for _ in range(60):
                line = some_line(rng, kept)
                expected = right.run(line)
                if type(expected) is str:
                    self.assertEqual(shell.run(line), expected, line)
                    kinds.append(line.split(" ")[0] + (" -" if expected in ("-", "none", "0") else ""))
                else:
                    self.assertIs(raised(shell, line), expected, line)
                    kinds.append(expected)
        for kind in list(LENGTHS) + ["sums -", "pieces -", "lone -", "part -", "strength -", InvalidLine, InvalidName, ParseError,
                                     UnknownName, NoCoins, NoTalk, InvalidBand, UnknownPerson, SamePerson]:
            self.assertGreater(kinds.count(kind), 2, kind)

    def test_two_shells_are_apart(self):
        one, other = Shell(), Shell()
        self.assertEqual(one.run("web w a_b/a-b/5"), "ok")
        self.assertEqual((one.run("webs"), other.run("webs")), ("w", "-"))
        self.assertIs(raised(other, "coins w a-b=1"), UnknownName)
        self.assertEqual(other.run("web w a//7"), "ok")
        self.assertEqual((one.run("pieces w ."), other.run("pieces w .")), ("a+b", "a"))
        self.assertEqual(other.run("coins w ."), "ok")
        self.assertIs(raised(one, "talk w a=0_b=0"), NoCoins)


class Lines(unittest.TestCase):
    def shell(self):
        shell = Shell()
        for line in ["web w a_b_c/a-b_b-c/5", "coins w a-b=3_b-c=1", "talk w a=0_b=2_c=0", "web bare a_b/a-b/5", "web coined a_b/a-b/5",
                     "coins coined a-b=2"]:
            self.assertEqual(shell.run(line), "ok")
        return shell

    def test_how_many_words(self):
        right = ["web w a//5", "coins w a-b=3_b-c=1", "talk w a=0_b=2_c=0", "sums w .", "lone w .", "rows w .", "deals w .",
                 "pieces w .", "part w a b", "strength w", "webs"]
        self.assertEqual({line.split(" ")[0] for line in right}, set(LENGTHS))
        for line in right:
            words = line.split(" ")
            self.assertEqual(LENGTHS[words[0]], len(words))
            for many in range(8):
                told = " ".join((words + ["w", "x", "y", "z", "."])[:many])
                if many != len(words):
                    self.assertIs(raised(self.shell(), told), InvalidLine, told)
            for spoilt in [" " + line, line + " ", line.replace(" ", "  ", 1) if " " in line else line + "  ", line + "\n", "\n" + line,
                           line.replace(" ", "\n", 1) if " " in line else "\n", line.replace(" ", "\t", 1) if " " in line else "\t",
                           line.upper(), line.title(), "x" + line, line + " x", words[0] + "s " + line, line + "\n" + line]:
                if spoilt.strip("\t") != line:
                    self.assertIs(raised(self.shell(), spoilt), InvalidLine, repr(spoilt))
            self.assertIsNone(raised(self.shell(), line))

    def test_tabs_are_parts_of_words(self):
        shell = self.shell()
        cases = {"webs\t": InvalidLine, "\twebs": InvalidLine, "web\tw a//5": InvalidLine, "web w\t a//5": InvalidName,
                 "web w a\tb//5": ParseError, "web w a//5\t": ParseError, "sums w\t .": UnknownName, "sums w .\t": InvalidBand,
                 "sums w a\t+b": InvalidBand, "part w a\t b": UnknownPerson, "coins w a-b=3_b-c=1\t": ParseError, "\t": InvalidLine,
                 "strength \t": UnknownName, "talk w \t": ParseError, "web \t .": InvalidName}
        for line, error in cases.items():
            self.assertIs(raised(shell, line), error, repr(line))

    def test_objects_of_all_kinds(self):
        shell = self.shell()
        for thing in helpers.junk() + [["webs"], ("webs",), {"webs": 1}, ["strength", "w"], b"webs", shell, Shell, None]:
            before = helpers.frozen(thing)
            self.assertIs(raised(shell, thing), InvalidLine, thing)
            self.assertEqual(helpers.frozen(thing), before)

    def test_errors_in_their_order(self):
        shell = self.shell()
        cases = {
            "frob w .": InvalidLine, "Web w a//5": InvalidLine, "": InvalidLine, " ": InvalidLine, "web": InvalidLine,
            "web W nothing": InvalidName, "web abcdefghi a//5": InvalidName, "web w1 a//5": InvalidName, "web . a//5": InvalidName,
            "web new nothing": ParseError, "web new .": ParseError, "web w b_a//5": ParseError, "web new a//1": ParseError,
            "web new a/5": ParseError, "web new a//5/": ParseError, "web new a_b/b-a/5": ParseError, "web new a//05": ParseError,
            "web new a.b//5": ParseError, "web new _//5": ParseError, "web new a/./5": ParseError,
            "coins new .": UnknownName, "coins W .": UnknownName, "coins w .": ParseError, "coins w a-b=3": ParseError,
            "coins w a-b=3_b-c=5": ParseError, "coins w b-c=1_a-b=3": ParseError, "coins w a=0_b=2_c=0": ParseError,
            "talk new .": UnknownName, "talk bare .": NoCoins, "talk bare a=0_b=0": NoCoins, "talk coined .": ParseError,
            "talk coined a=0": ParseError, "talk coined a=0_b=5": ParseError, "talk coined a=0/b=1": ParseError,
            "part new a b": UnknownName, "part new a a": UnknownName, "part w a z": UnknownPerson, "part w z a": UnknownPerson,
            "part w z z": UnknownPerson, "part w a a": SamePerson, "part w . a": UnknownPerson, "part w a+b c": UnknownPerson,
            "strength new": UnknownName, "strength .": UnknownName, "pieces new .": UnknownName, "pieces new x": UnknownName,
        }
        for word in ["sums", "lone", "rows", "deals"]:
            cases.update({f"{word} new .": UnknownName, f"{word} new a+a": UnknownName, f"{word} bare .": NoTalk,
                          f"{word} bare a+a": NoTalk, f"{word} coined z": NoTalk, f"{word} coined .": NoTalk})
        for word in ["sums", "lone", "rows", "deals", "pieces"]:
            for band in ["a+a", "z", "a+z", "+", "a+", "+a", "a++b", "..", ".+a", "a+.", "-", "A", "a,b", "a_b", "ab", "a+b+c+a", "a=b"]:
                cases[f"{word} w {band}"] = InvalidBand
        for line, error in cases.items():
            self.assertIs(raised(shell, line), error, line)

    def test_the_line_of_a_text(self):
        shell = self.shell()
        for line, at in [("web x .", 0), ("web x a_b/a-c/5", 1), ("web x a_b/a-b", 2), ("web x a//5/", 3), ("web x a//5/5", 3),
                         ("coins w .", 0), ("talk w a=0/b=0", 0)]:
            with self.assertRaises(ParseError) as caught:
                shell.run(line)
            self.assertEqual(caught.exception.line, at)

    def test_a_refused_line_changes_nothing(self):
        asked = ["webs", "sums w b", "lone w a", "rows w .", "deals w .", "pieces w b", "part w a c", "strength w", "pieces bare .",
                 "strength coined"]
        shell = self.shell()
        answers = [shell.run(line) for line in asked]
        refused = ["web w b_a//5", "web W a//5", "web new a", "coins w a-b=3", "coins new .", "talk w a=9_b=0_c=0", "talk bare a=0_b=0",
                   "talk coined a=0_b=7", "sums w z", "webs webs", "part w a a", "coins w", "frob", "web w a_b_c/a-c_a-b/5"]
        for line in refused:
            self.assertIsNotNone(raised(shell, line), line)
            self.assertEqual([shell.run(one) for one in asked], answers)
        self.assertIs(raised(shell, "talk bare a=0_b=0"), NoCoins)
        self.assertIs(raised(shell, "rows coined ."), NoTalk)

    def test_a_web_put_anew_loses_its_coins_and_talk(self):
        shell = self.shell()
        self.assertEqual(shell.run("rows w ."), "25")
        self.assertEqual(shell.run("web w a_b_c/a-b_b-c/5"), "ok")
        self.assertIs(raised(shell, "rows w ."), NoTalk)
        self.assertIs(raised(shell, "talk w a=0_b=2_c=0"), NoCoins)
        self.assertEqual(shell.run("webs"), "bare coined w")
        self.assertEqual(shell.run("coins w a-b=3_b-c=1"), "ok")
        self.assertIs(raised(shell, "rows w ."), NoTalk)
        self.assertEqual(shell.run("talk w a=0_b=2_c=0"), "ok")
        self.assertEqual(shell.run("rows w ."), "25")

    def test_coins_put_anew_take_the_talk_away(self):
        shell = self.shell()
        for line in ["coins w a-b=3_b-c=1", "coins w a-b=0_b-c=0"]:
            self.assertEqual(shell.run("talk w a=1_b=0_c=0"), "ok")
            self.assertEqual(shell.run("lone w b"), "1 a")
            self.assertEqual(shell.run(line), "ok")
            for word in ["sums", "lone", "rows", "deals"]:
                self.assertIs(raised(shell, f"{word} w ."), NoTalk)
            self.assertEqual(shell.run("pieces w ."), "a+b+c")
        self.assertEqual(shell.run("talk w a=1_b=0_c=0"), "ok")
        self.assertEqual(shell.run("talk w a=0_b=0_c=3"), "ok")
        self.assertEqual(shell.run("lone w b"), "3 c")

    def test_answers(self):
        shell = Shell()
        self.assertEqual(shell.run("webs"), "-")
        self.assertEqual(shell.run("web lone a//7"), "ok")
        self.assertEqual(shell.run("coins lone ."), "ok")
        self.assertEqual(shell.run("talk lone a=3"), "ok")
        cases = {"sums lone .": "a=3", "sums lone a": "-", "pieces lone .": "a", "pieces lone a": "-", "lone lone .": "3 a",
                 "lone lone a": "3 a", "rows lone .": "1", "rows lone a": "1", "deals lone .": "1", "strength lone": "none", "webs": "lone"}
        for line, told in cases.items():
            self.assertEqual(shell.run(line), told, line)
        for line in ["web ring a_b_c_d/a-b_a-d_b-c_c-d/100", "coins ring a-b=99_a-d=0_b-c=50_c-d=7", "talk ring a=0_b=0_c=0_d=0"]:
            self.assertEqual(shell.run(line), "ok")
        cases = {"sums ring a+c": "b=0 d=0", "sums ring c+a": "b=0 d=0", "lone ring .": "0", "lone ring a+b+c+d": "0",
                 "rows ring .": "1000000", "deals ring .": "100", "deals ring b": "1", "part ring a c": "2", "part ring a b": "none",
                 "strength ring": "2", "pieces ring c+a": "b d", "pieces ring a": "b+c+d", "webs": "lone ring"}
        for line, told in cases.items():
            self.assertEqual(shell.run(line), told, line)
        self.assertEqual(shell.run("talk ring a=1_b=2_c=3_d=4"), "ok")
        cases = {"lone ring a": "none", "sums ring a": "b+c+d=9", "lone ring .": "10 a b c d", "lone ring a+c": "none"}
        for line, told in cases.items():
            self.assertEqual(shell.run(line), told, line)

    def test_names_of_parameters(self):
        self.assertEqual(str(inspect.signature(Shell.run)), "(self, line)")
        self.assertEqual(str(inspect.signature(Shell)), "()")
        self.assertEqual(Shell().run(line="webs"), "-")
        self.assertTrue(issubclass(errors.InvalidLine, HushError))


if __name__ == "__main__":
    unittest.main()
