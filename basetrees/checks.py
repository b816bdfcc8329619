"""Checks of arguments that many functions have in common."""

from basetrees.errors import NotAWeb, UnknownName
from basetrees.names import check_known
from basetrees.webs import Web


def check_web(web):
    """Raise NotAWeb if the value is no web."""
    if not isinstance(web, Web):
        raise NotAWeb(web)


def check_line(web, source, copy):
    """Raise UnknownName with the first of both that is no copy of the web, or with the copy of no line."""
    check_known(source, web.names)
    check_known(copy, web.names)
    if (source, copy) not in web.lines:
        raise UnknownName(copy)
