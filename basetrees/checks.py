"""Checks of arguments that many functions have in common."""

from basetrees.errors import InvalidTold, NotAWeb, UnknownName
from basetrees.limits import MOST_TOLD
from basetrees.names import is_one_of
from basetrees.webs import Web


def is_integer(value):
    """Whether any value is an integer; True and False are none."""
    return isinstance(value, int) and not isinstance(value, bool)


def check_web(web):
    """Raise NotAWeb if the value is no web."""
    if not isinstance(web, Web):
        raise NotAWeb(web)


def check_line(web, source, copy):
    """Raise UnknownName with the source if it is no copy of the web, with the copy if both are no line."""
    if not is_one_of(copy, web.copies(source)):
        raise UnknownName(copy)


def check_told(web, told):
    """Raise InvalidTold with the index of the first element that is no told line, comes again or is one too many."""
    if not isinstance(told, tuple):
        raise InvalidTold(None)
    lines = []
    for index, element in enumerate(told):
        if index == MOST_TOLD or not _is_told_line(web, element) or element[:2] in lines:
            raise InvalidTold(index)
        lines.append(element[:2])


def _is_told_line(web, value):
    if not isinstance(value, tuple) or len(value) != 3:
        return False
    source, copy, kept = value
    if not is_one_of(source, web.names) or not is_one_of(copy, web.copies(source)):
        return False
    return isinstance(kept, bool)
