"""The errors: one class for each kind of failure."""


class HushError(ValueError):
    """What all errors of the package are; it is made with a string, which its str is."""


class ParseError(HushError):
    """A text is wrong in one line, whose index is the attribute line."""

    def __init__(self, line):
        super().__init__(f"line {line} is wrong")
        self.line = line


class InBand(HushError):
    """A person who has to be outside a band is in it."""


class InvalidBand(HushError):
    """An object is no band."""


class InvalidCoins(HushError):
    """An object is no coins."""


class InvalidIndex(HushError):
    """An object is no index of a talk."""


class InvalidLine(HushError):
    """An object is no line for the shell."""


class InvalidMessages(HushError):
    """An object is no messages."""


class InvalidModulus(HushError):
    """An object is no modulus."""


class InvalidName(HushError):
    """An object is no name."""


class InvalidNumber(HushError):
    """An object is no number of the wanted kind."""


class InvalidNumbers(HushError):
    """An object is no numbers by people or ties."""


class InvalidOpening(HushError):
    """An object is no opening."""


class InvalidPeople(HushError):
    """An object is no list of people."""


class InvalidSayings(HushError):
    """An object is no sayings."""


class InvalidSeries(HushError):
    """An object is no series of a view."""


class InvalidTies(HushError):
    """An object is no list of ties."""


class InvalidTimetable(HushError):
    """An object is no timetable."""


class InvalidView(HushError):
    """An object is no view."""


class InvalidWeb(HushError):
    """An object is no web."""


class InvalidWeights(HushError):
    """An object is no weights."""


class Mismatch(HushError):
    """Two views do not go together."""


class NameIsTaken(HushError):
    """A person of this name is there already."""


class NoCoins(HushError):
    """A web has no coins yet."""


class NoTalk(HushError):
    """A web has no talk yet."""


class NoTie(HushError):
    """Two people are not tied."""


class NoVotes(HushError):
    """No votes are possible in a view."""


class NobodyThere(HushError):
    """A room has no people."""


class NothingToUndo(HushError):
    """There are fewer calls than are to be taken back."""


class SamePerson(HushError):
    """Two people have to be different and are not."""


class SmallModulus(HushError):
    """A modulus is not greater than the number of people."""


class TooMany(HushError):
    """A room is full."""


class UnknownName(HushError):
    """No web has this name."""


class UnknownPerson(HushError):
    """A person is none of the people."""
