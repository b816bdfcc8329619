"""Checks of arguments that many functions have in common."""

from basetrees.errors import InvalidTold, NotAWeb, UnknownName
from basetrees.limits import MOST_TOLD
from basetrees.names import check_known, is_one_of
from basetrees.webs import Web


def check_web(web):
    """Raise NotAWeb if the value is no web."""
    if not isinstance(web, Web):
        raise NotAWeb(web)


def check_line(web, source, copy):
    """Raise UnknownName with the source if it is no copy of the web, with the copy if both are no line."""
    if not is_one_of(copy, web.copies(source)):
        raise UnknownName(copy)


def check_two(web, one, other):
    """Raise UnknownName with the first one that is no copy of the web, with the other one if both are the same."""
    check_known(one, web.names)
    check_known(other, web.names)
    if one == other:
        raise UnknownName(other)


def check_told(web, told):
    """Raise InvalidTold with the index of the first element that is no told line, comes again or is one too many."""
    if not isinstance(told, tuple):
        raise InvalidTold(None)
    lines = []
    for index, element in enumerate(told):
        if index == MOST_TOLD or not _is_told_line(web, element) or element[:2] in lines:
            raise InvalidTold(index)
        lines.append(element[:2])


def is_line(web, value):
    """Whether any value is a line of the web."""
    if not isinstance(value, tuple) or len(value) != 2:
        return False
    return is_one_of(value[0], web.names) and is_one_of(value[1], web.copies(value[0]))


def _is_told_line(web, value):
    if not isinstance(value, tuple) or len(value) != 3:
        return False
    return is_line(web, value[:2]) and isinstance(value[2], bool)
