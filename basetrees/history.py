"""What shelves and desks have in common: changes that can be taken back, and attempts."""

from basetrees.errors import NothingToUndo


class History:
    """What is now, and what was before each of the changes that are not taken back."""

    def __init__(self, now):
        self.now = now
        self.past = []

    def change(self, now):
        """Let something else be now."""
        self.past.append(self.now)
        self.now = now

    def undo(self):
        """Take the last change back; NothingToUndo if there is none."""
        if not self.past:
            raise NothingToUndo()
        self.now = self.past.pop()


class Attempt:
    """An object for one `with` statement: if its rows end with an error, all is as it was when they began."""

    def __init__(self, owner, history):
        self._owner = owner
        self._history = history
        self._now = None
        self._past = None

    def __enter__(self):
        self._now = self._history.now
        self._past = list(self._history.past)
        return self._owner

    def __exit__(self, kind, value, trace):
        history = self._history
        if kind is not None:
            history.now = self._now
            history.past = self._past

    def __eq__(self, other):
        return self is other
