"""The shell: lines that put webs, coins and talks under names and ask about them."""

from hushweb.errors import InvalidLine, NoCoins, NoTalk, UnknownName
from hushweb.kinds import check_name
from hushweb.known import deals, rows, sums
from hushweb.lone import lone
from hushweb.roads import least_band
from hushweb.strength import strength
from hushweb.texts import parse_coins, parse_numbers, parse_web
from hushweb.views import view
from hushweb.webs import pieces

# How many words the lines have, by their first words.
WORDS = {"web": 3, "coins": 3, "talk": 3, "sums": 3, "lone": 3, "rows": 3, "deals": 3, "pieces": 3, "part": 4,
         "strength": 2, "webs": 1}
EMPTY = "."
NO_WORDS = "-"
NONE = "none"
DONE = "ok"


class Shell:
    """Webs by name, each perhaps with coins and a talk."""

    def __init__(self):
        # By name a tuple (web, coins, messages); coins and messages are None where there are none.
        self._kept = {}

    def run(self, line):
        """Execute a line and return the answer."""
        words = words_of(line)
        if words[0] == "webs":
            return told(sorted(self._kept))
        if words[0] == "web":
            check_name(words[1])
            self._kept[words[1]] = (parse_web(text_of(words[2])), None, None)
            return DONE
        if words[1] not in self._kept:
            raise UnknownName("there is no web of this name")
        if words[0] in ("coins", "talk"):
            self._kept[words[1]] = changed(self._kept[words[1]], words)
            return DONE
        return asked(self._kept[words[1]], words)


def words_of(line):
    """Return the list of the words of a line, or raise InvalidLine if an object is no line."""
    words = line.split(" ") if isinstance(line, str) and "\n" not in line else [""]
    # Between two spaces, and beside one at an end, there is an empty word.
    if "" in words or words[0] not in WORDS or len(words) != WORDS[words[0]]:
        raise InvalidLine("this is no line of the shell")
    return words


def text_of(word):
    """Return the text that is written as a word."""
    return "" if word == EMPTY else word.replace("_", " ").replace("/", "\n")


def band_of(word):
    """Return the list of names that is written as a word; whether it is a band is asked by whom it is handed to."""
    return [] if word == EMPTY else word.split("+")


def told(words):
    """Return the answer of these words."""
    return " ".join(words) if words else NO_WORDS


def told_number(number):
    """Return the answer of a number, or of None."""
    return NONE if number is None else str(number)


def names_told(people):
    """Return the word of some people."""
    return "+".join(people)


def changed(kept, words):
    """Return what is kept of a web after a line that gives it coins or a talk."""
    web, coins, _ = kept
    if words[0] == "coins":
        return (web, parse_coins(web, text_of(words[2])), None)
    if coins is None:
        raise NoCoins("this web has no coins")
    return (web, coins, parse_numbers(web, text_of(words[2])))


def asked(kept, words):
    """Return the answer to a line that asks about one web."""
    web, coins, messages = kept
    if words[0] == "strength":
        return told_number(strength(web))
    if words[0] == "part":
        band = least_band(web, words[2], words[3])
        return told_number(None if band is None else len(band))
    if words[0] == "pieces":
        return told([names_told(piece) for piece in pieces(web, band_of(words[2]))])
    if messages is None:
        raise NoTalk("this web has no talk")
    return asked_of_view(web, view(web, band_of(words[2]), coins, messages), messages, words[0])


def asked_of_view(web, seen, messages, word):
    """Return the answer to a line, told by its first word, that asks about the view of a band."""
    if word == "sums":
        return told([f"{names_told(piece)}={number}" for piece, number in sums(web, seen)])
    if word == "rows":
        return str(rows(web, seen))
    if word == "deals":
        return str(deals(web, seen, messages))
    speaking = lone(web, seen)
    if speaking is None:
        return NONE
    message, people = speaking
    return told([str(message)] + people)
