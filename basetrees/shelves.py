"""Shelves: webs to which copies come, one after the other."""

from basetrees.errors import InvalidName
from basetrees.history import Attempt, History
from basetrees.names import is_name
from basetrees.webs import Web


class Shelf:
    """A shelf; it is equal to itself alone."""

    def __init__(self, name):
        if not is_name(name):
            raise InvalidName(name)
        self._history = History(Web(name))

    @property
    def web(self):
        """The web of the copies on the shelf."""
        return self._history.now

    @property
    def changes(self):
        """The number of changes that can be taken back."""
        return len(self._history.past)

    def put(self, name, sources):
        """Put a copy on the shelf, behind the others."""
        self._history.change(self._history.now.with_copy(name, sources))

    def take(self, copy):
        """Take an end off the shelf."""
        self._history.change(self._history.now.without(copy))

    def undo(self):
        """Take the last change back that is not taken back yet."""
        self._history.undo()

    def attempt(self):
        """An object for a `with` statement: if its rows end with an error, the shelf is as it was before them."""
        return Attempt(self, self._history)

    def tried(self, act):
        """What the function returns, called with the shelf in such an attempt."""
        with self.attempt() as shelf:
            return act(shelf)

    def __eq__(self, other):
        return self is other
