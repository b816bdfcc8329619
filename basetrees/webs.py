"""Webs: copies with their sources."""

from basetrees.errors import FullSource, InvalidName, InvalidSources, InvalidText, TooMany
from basetrees.limits import MOST_COPIES
from basetrees.names import check_known
from basetrees.texts import are_sources, copies_of, is_full, is_new_name, read_web, write_web


class Web:
    """A web; it never changes."""

    def __init__(self, text):
        table = read_web(text)
        if table is None:
            raise InvalidText(text)
        self._text = text
        self._table = table
        self._names = tuple(table)
        self._lines = tuple([(source, copy) for copy in table for source in table[copy]])
        self._copies = {name: copies_of(table, name) for name in table}
        self._ends = tuple([name for name in table if not self._copies[name]])

    @property
    def text(self):
        """The text of the web."""
        return self._text

    @property
    def names(self):
        """The tuple of the names of the copies, in their order."""
        return self._names

    @property
    def lines(self):
        """The tuple of the lines, pairs (source, copy), in their order."""
        return self._lines

    @property
    def ends(self):
        """The tuple of the copies that are no sources, in the order of the names."""
        return self._ends

    def sources(self, copy):
        """The tuple of the sources of a copy, in their order."""
        check_known(copy, self._names)
        return self._table[copy]

    def copies(self, source):
        """The tuple of the copies of a source, in the order of the names."""
        check_known(source, self._names)
        return self._copies[source]

    def with_copy(self, name, sources):
        """The web with one more copy behind the others."""
        if not is_new_name(self._table, name):
            raise InvalidName(name)
        if not isinstance(sources, tuple) or not are_sources(self._table, sources):
            raise InvalidSources(sources)
        if len(self._names) == MOST_COPIES:
            raise TooMany(MOST_COPIES)
        for source in sources:
            if is_full(self._table, source):
                raise FullSource(source)
        return Web(write_web({**self._table, name: sources}))

    def without(self, copy):
        """The web without an end."""
        check_known(copy, self._names)
        if copy not in self._ends or copy == self._names[0]:
            raise InvalidName(copy)
        return Web(write_web({name: self._table[name] for name in self._names if name != copy}))

    def __eq__(self, other):
        return isinstance(other, Web) and self._text == other._text

    def __str__(self):
        return str(self._text)

    def __repr__(self):
        return f"Web of {len(self._names)} copies"
