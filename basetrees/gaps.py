"""Gaps: where a web has no choice, and what can be chosen if some sources may stay unchosen."""

from basetrees.checks import check_web
from basetrees.errors import InvalidFreed
from basetrees.limits import MOST_FREED
from basetrees.names import is_one_of
from basetrees.turns import Turns, first_among
from basetrees.zigzags import kind_of, zigzags


def gaps(web):
    """The number of the short zigzags."""
    return len(_short_ones(web))


def freeing(web):
    """For each short zigzag, in their order, the tuple of its sources, in the order of the names."""
    return tuple([sources_of(web, zigzag) for zigzag in _short_ones(web)])


def how_many_freed(web, freed):
    """In how many ways one can choose a source for each copy, if those in `freed` may stay unchosen."""
    return _turns_of(web, freed).many


def first_freed(web, freed):
    """The first one of these tuples of sources; None if there is none."""
    return first_among(web, _turns_of(web, freed))


def sources_of(web, lines):
    """The tuple of the sources of some lines, in the order of the names."""
    sources = [source for source, _ in lines]
    return tuple([name for name in web.names if name in sources])


def _short_ones(web):
    return [zigzag for zigzag in zigzags(web) if kind_of(zigzag) == "short"]


def _turns_of(web, freed):
    check_web(web)
    _check_freed(web, freed)
    return Turns(web, freed)


def _check_freed(web, freed):
    if not isinstance(freed, tuple):
        raise InvalidFreed(None)
    for index, name in enumerate(freed):
        if index == MOST_FREED or not _is_no_end(web, name) or name in freed[:index]:
            raise InvalidFreed(index)


def _is_no_end(web, value):
    return is_one_of(value, web.names) and value not in web.ends
