"""Judging: which lines are kept in all choices, which in none, and in what share of them."""

from math import gcd

from basetrees.checks import check_line, check_web
from basetrees.turns import Turns


def judge(web, source, copy):
    """Whether a line is "sure", "never" kept or "open"."""
    check_web(web)
    check_line(web, source, copy)
    return Turns(web, ()).verdict((source, copy))


def sure_lines(web):
    """The tuple of the sure lines, in their order."""
    turns = _turns_of(web)
    return tuple([line for line in web.lines if turns.verdict(line) == "sure"])


def shares(web):
    """For each line, in their order, the share of the choices that keep it, a pair without a common divisor."""
    turns = _turns_of(web)
    return tuple([_in_lowest_terms(turns.share(line)) for line in web.lines])


def _turns_of(web):
    check_web(web)
    turns = Turns(web, ())
    turns.check()
    return turns


def _in_lowest_terms(share):
    top, bottom = share
    divisor = gcd(top, bottom)
    return top // divisor, bottom // divisor
