"""Coins used again: what is lost when several talks are held with the same coins."""

from hushweb.errors import InvalidMessages, InvalidSeries
from hushweb.known import may, rows
from hushweb.lone import lone
from hushweb.talks import are_numbers
from hushweb.views import check_view
from hushweb.webs import check_web

LONGEST_SERIES = 4


def check_series(web, view, series):
    """Raise the error that applies unless three objects are a web, a view and a series of it."""
    check_web(web)
    check_view(web, view)
    if not (isinstance(series, list) and 1 <= len(series) <= LONGEST_SERIES
            and all([are_numbers(web, sayings) for sayings in series])):
        raise InvalidSeries("a series is a list of one to four sayings of all people of the web")


def changes(web, view, series):
    """Return, for each further talk, how much the message of each person is more than in the view's talk."""
    check_series(web, view, series)
    # With the same coins, what a person says differs by as much as the message does.
    return [{person: (sayings[person] - view[3][person]) % web.modulus for person in web.people}
            for sayings in series]


def with_changes(web, view, series, messages):
    """Return the messages of all talks if those of the view's talk are these."""
    further = [{person: (messages[person] + change[person]) % web.modulus for person in web.people}
               for change in changes(web, view, series)]
    return [messages] + further


def may_again(web, view, series, lists):
    """Return whether a list of messages is possible in a view with a series."""
    check_series(web, view, series)
    if not (isinstance(lists, list) and len(lists) == len(series) + 1
            and all([are_numbers(web, messages) for messages in lists])):
        raise InvalidMessages("this is no list of messages, one for each talk")
    return may(web, view, lists[0]) and lists == with_changes(web, view, series, lists[0])


def rows_again(web, view, series):
    """Return how many lists of messages are possible in a view with a series."""
    check_series(web, view, series)
    # The messages of the view's talk settle those of all others.
    return rows(web, view)


def speakers_again(web, view, series):
    """Return, for each talk, who may have spoken if at most one speaks in each talk, or None if that can't be."""
    check_series(web, view, series)
    lists = [with_changes(web, view, series, messages) for messages in lone_messages(web, view)]
    fitting = [talks for talks in lists if all([len(speakers(messages)) <= 1 for messages in talks])]
    if not fitting:
        return None
    spoken = [[person for talks in fitting for person in speakers(talks[at])] for at in range(len(series) + 1)]
    return [[person for person in web.people if person in people] for people in spoken]


def lone_messages(web, view):
    """Return the list of all possible messages of a view of which at most one is not 0."""
    found = lone(web, view)
    if found is None:
        return []
    message, people = found
    silent = {person: 0 for person in web.people}
    if message == 0:
        return [silent]
    return [{person: message if person == speaker else 0 for person in web.people} for speaker in people]


def speakers(messages):
    """Return the list of those whose message is not 0."""
    return [person for person, message in messages.items() if message != 0]
