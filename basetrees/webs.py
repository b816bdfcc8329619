"""Webs: copies with their sources."""

from basetrees.errors import FullSource, InvalidName, InvalidSources, InvalidText, TooMany
from basetrees.limits import MOST_COPIES
from basetrees.names import check_known
from basetrees.texts import are_sources, first_full, is_new_name, read_web, text_with, text_without


class Web:
    """A web; it never changes."""

    def __init__(self, text):
        told = read_web(text)
        if told is None:
            raise InvalidText(text)
        all_sources, all_copies = told
        self._text = text
        self._sources = {name: tuple(all_sources[name]) for name in all_sources}
        self._copies = {name: tuple(all_copies[name]) for name in all_copies}
        self._names = tuple(all_sources)
        self._lines = tuple([(source, copy) for copy in all_sources for source in all_sources[copy]])
        self._ends = tuple([name for name in all_copies if not all_copies[name]])

    @property
    def text(self):
        """The text of the web."""
        return self._text

    @property
    def names(self):
        """The tuple of the names of the copies, in their order."""
        return self._names

    @property
    def lines(self):
        """The tuple of the lines, pairs (source, copy), in their order."""
        return self._lines

    @property
    def ends(self):
        """The tuple of the copies that are no sources, in the order of the names."""
        return self._ends

    def sources(self, copy):
        """The tuple of the sources of a copy, in their order."""
        check_known(copy, self._sources)
        return self._sources[copy]

    def copies(self, source):
        """The tuple of the copies of a source, in the order of the names."""
        check_known(source, self._copies)
        return self._copies[source]

    def with_copy(self, name, sources):
        """The web with one more copy behind the others."""
        if not is_new_name(name, self._copies):
            raise InvalidName(name)
        if not isinstance(sources, tuple) or not are_sources(sources, self._copies):
            raise InvalidSources(sources)
        if len(self._names) == MOST_COPIES:
            raise TooMany(MOST_COPIES)
        full = first_full(sources, self._copies)
        if full is not None:
            raise FullSource(full)
        return Web(text_with(self._text, name, sources))

    def without(self, copy):
        """The web without an end."""
        check_known(copy, self._copies)
        if copy not in self._ends or copy == self._names[0]:
            raise InvalidName(copy)
        return Web(text_without(self._text, self._names.index(copy)))

    def __eq__(self, other):
        return isinstance(other, Web) and self._text == other._text

    def __str__(self):
        return str(self._text)

    def __repr__(self):
        return f"Web of {len(self._names)} copies"
