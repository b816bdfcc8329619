"""Desks: webs under names, and claims that hold of them after each change."""

from basetrees.checks import check_web
from basetrees.errors import Broken, InUse, InvalidClaim, InvalidIndex, InvalidName
from basetrees.history import Attempt, History
from basetrees.integers import is_integer
from basetrees.names import check_known, is_name, is_one_of
from basetrees.turns import Turns

# How many elements a claim with this word has.
WORDS = {"has": 2, "sure": 4, "never": 4, "count": 3, "copies": 3}


class Desk:
    """A desk; it is equal to itself alone."""

    def __init__(self):
        # A dict of the webs under their names, and the tuple of the claims. Neither is ever changed, only replaced.
        self._history = History(({}, ()))

    @property
    def names(self):
        """The ascending tuple of the names."""
        webs, _ = self._history.now
        return tuple(sorted(webs))

    @property
    def claims(self):
        """The tuple of the claims in the order in which they were made."""
        _, claims = self._history.now
        return claims

    @property
    def changes(self):
        """The number of changes that can be taken back."""
        return len(self._history.past)

    def put(self, name, web):
        """Let a web stand under a name."""
        _check_name(name)
        check_web(web)
        webs, claims = self._history.now
        turns = Turns(web, ())
        for index in _indexes_of(name, claims):
            _check_holds(index, claims[index], web, turns)
        self._history.change(({**webs, name: web}, claims))

    def drop(self, name):
        """Let the web under a name go."""
        _check_name(name)
        webs, claims = self._history.now
        check_known(name, webs)
        indexes = _indexes_of(name, claims)
        if indexes:
            raise InUse(indexes[0])
        self._history.change(({other: webs[other] for other in webs if other != name}, claims))

    def claim(self, claim):
        """Let a claim come, behind the others."""
        if not _is_claim(claim):
            raise InvalidClaim(claim)
        webs, claims = self._history.now
        check_known(claim[1], webs)
        web = webs[claim[1]]
        _check_holds(len(claims), claim, web, Turns(web, ()))
        self._history.change((webs, (*claims, claim)))

    def lift(self, index):
        """Let the claim with this index go."""
        webs, claims = self._history.now
        if not is_integer(index) or not 0 <= index < len(claims):
            raise InvalidIndex(index)
        self._history.change((webs, claims[:index] + claims[index + 1:]))

    def undo(self):
        """Take the last change back that is not taken back yet."""
        self._history.undo()

    def attempt(self):
        """An object for a `with` statement: if its rows end with an error, the desk is as it was before them."""
        return Attempt(self, self._history)

    def tried(self, act):
        """What the function returns, called with the desk in such an attempt."""
        with self.attempt() as desk:
            return act(desk)

    def __getitem__(self, name):
        _check_name(name)
        webs, _ = self._history.now
        check_known(name, webs)
        return webs[name]

    def __contains__(self, name):
        webs, _ = self._history.now
        return is_one_of(name, webs)

    def __iter__(self):
        raise TypeError("a desk is not iterated over")

    def __len__(self):
        return len(self.names)

    def __bool__(self):
        return True

    def __eq__(self, other):
        return self is other


def _check_name(name):
    if not is_name(name):
        raise InvalidName(name)


def _indexes_of(name, claims):
    """The indexes of the claims with this name."""
    return [index for index, claim in enumerate(claims) if claim[1] == name]


def _is_claim(value):
    """Whether any value is a claim, if its name is left aside."""
    if not isinstance(value, tuple) or not value or not isinstance(value[0], str):
        return False
    if value[0] not in WORDS or len(value) != WORDS[value[0]]:
        return False
    if len(value) == 4:
        return isinstance(value[2], str) and isinstance(value[3], str)
    return len(value) == 2 or is_integer(value[2])


def _check_holds(index, claim, web, turns):
    """Raise Broken if a claim does not hold of a web, whose turns are these."""
    if len(claim) == 4 and claim[2:] not in web.lines:
        raise Broken(index, None)
    told, claimed = _told_and_claimed(claim, web, turns)
    if told != claimed:
        raise Broken(index, told)


def _told_and_claimed(claim, web, turns):
    """What is told of a web that a claim fits, and what it should be."""
    word = claim[0]
    if word == "copies":
        return len(web.names), claim[2]
    if word == "count":
        return turns.many, claim[2]
    if word == "has":
        return turns.many > 0, True
    if turns.many == 0:
        # Without choices a line is kept in all of them, and in none.
        return word, word
    return turns.verdict(claim[2:]), word
