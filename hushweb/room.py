"""Rooms: people come and go, ties are laid and taken away, and talks are held."""

from hushweb.errors import (InvalidIndex, InvalidMessages, InvalidNumber, InvalidWeights, NameIsTaken, NoTie,
                            NobodyThere, NothingToUndo, SamePerson, TooMany, UnknownPerson)
from hushweb.kinds import check_name, check_number, gives_some, is_integer, is_whole
from hushweb.service import are_lists, check_past_band, coin_between, weighted
from hushweb.talks import say
from hushweb.views import view
from hushweb.webs import MOST_PEOPLE, Web, check_modulus


class Room:
    """People, ties with coins, and the talks that were held; each call can be taken back."""

    def __init__(self, modulus):
        check_modulus(modulus)
        self._modulus = modulus
        # What each call that stands left, as a tuple (people, laid, talk): laid is a dict from ties to tuples
        # (number, call), talk is None where the call was no talk. Nothing in it changes, so that copies share it.
        self._steps = []

    @property
    def people(self):
        """The ascending list of the people."""
        return list(self._steps[-1][0]) if self._steps else []

    @property
    def coins(self):
        """The dict from all ties to their coins."""
        laid = self._laid()
        return {tie: laid[tie][0] for tie in laid}

    @property
    def talks(self):
        """The list of tuples (web, sayings) of all talks that stand."""
        return [(web, dict(sayings)) for web, _, _, sayings in self._standing()]

    @property
    def modulus(self):
        """The modulus."""
        return self._modulus

    def __len__(self):
        return len(self._steps)

    def _laid(self):
        """Return the coins as they lie now, with the calls that laid them; what is returned is not to be changed."""
        return self._steps[-1][1] if self._steps else {}

    def _standing(self):
        """Return the list of all talks that stand; what is in it is not to be changed."""
        return [talk for _, _, talk in self._steps if talk is not None]

    def _keep(self, people, laid, talk):
        """Add what a call left."""
        self._steps.append((people, laid, talk))

    def _check_there(self, person):
        """Raise UnknownPerson unless an object is one of the people."""
        if person not in self.people:
            raise UnknownPerson("nobody of this name is there")

    def _tie_of(self, one, other):
        """Return the tie of two people, or raise the error that applies if they are not two who are there."""
        self._check_there(one)
        self._check_there(other)
        if one == other:
            raise SamePerson("a tie is between two different people")
        return (one, other) if one < other else (other, one)

    def join(self, name):
        """Let a person in."""
        check_name(name)
        people = self.people
        if name in people:
            raise NameIsTaken("a person of this name is there")
        if len(people) == MOST_PEOPLE:
            raise TooMany("there are eight people")
        self._keep(sorted(people + [name]), self._laid(), None)

    def leave(self, name):
        """Let a person go, with all ties at them."""
        check_name(name)
        self._check_there(name)
        laid = self._laid()
        left = {tie: laid[tie] for tie in laid if name not in tie}
        self._keep([person for person in self.people if person != name], left, None)

    def tie(self, one, other, coin):
        """Lay a tie with a coin between two people, also in the place of one that is there."""
        tie = self._tie_of(one, other)
        check_number(coin, 0, self._modulus - 1)
        now = self._laid()
        laid = {each: now[each] for each in now}
        # The number of calls that stand tells this call apart from all others that stand.
        laid[tie] = (coin, len(self._steps))
        self._keep(self.people, laid, None)

    def untie(self, one, other):
        """Take a tie away."""
        tie = self._tie_of(one, other)
        laid = self._laid()
        if tie not in laid:
            raise NoTie("the two are not tied")
        self._keep(self.people, {each: laid[each] for each in laid if each != tie}, None)

    def talk(self, messages):
        """Hold a talk of the people who are there, and return the sayings; who is not told is silent."""
        web = self.web()
        if not gives_some(messages, web.people, self._modulus):
            raise InvalidMessages("messages are a dict from some of the people to numbers")
        told = {person: messages.get(person, 0) for person in web.people}
        sayings = say(web, self.coins, told)
        self._keep(web.people, self._laid(), (web, told, self._laid(), sayings))
        return dict(sayings)

    def undo(self, *, steps=1):
        """Take the last so many calls back."""
        if not is_whole(steps) or steps < 1:
            raise InvalidNumber("steps are an integer from 1 on")
        if steps > len(self._steps):
            raise NothingToUndo("there are fewer calls")
        self._steps = self._steps[:len(self._steps) - steps]

    def web(self):
        """Return the web as it is."""
        people = self.people
        if not people:
            raise NobodyThere("there are no people")
        return Web(people, list(self._laid()), self._modulus)

    def seen(self, index, band):
        """Return the view of a band at a talk, which is told by its index."""
        talks = self._standing()
        if not is_integer(index, 0, len(talks) - 1):
            raise InvalidIndex("this is no index of a talk")
        web, messages, laid, _ = talks[index]
        return view(web, band, {tie: laid[tie][0] for tie in laid}, messages)

    def known(self, band, weights):
        """Return (True, sum) if a band knows a weighted sum of all messages, or (False, coin) with a coin between."""
        talks = self._standing()
        check_past_band(talks, band)
        if not are_lists(talks, weights):
            raise InvalidWeights("weights are a list with, for each talk, a dict from all its people to numbers")
        coin = coin_between(talks, band, weights, self._modulus)
        if coin is not None:
            return (False, coin)
        return (True, weighted(weights, [messages for _, messages, _, _ in talks], self._modulus))

    def held(self):
        """Return the list of all talks that stand as tuples (web, messages, laid, sayings), as histories need them."""
        return [(web, dict(messages), {tie: laid[tie] for tie in laid}, dict(sayings))
                for web, messages, laid, sayings in self._standing()]

    def copy(self):
        """Return an independent room in the same state."""
        room = Room(self._modulus)
        room._steps = list(self._steps)
        return room
