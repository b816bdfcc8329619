"""Asking: which questions to ask about an unknown choice, to each of which a line is kept or is not."""

from basetrees.checks import is_line
from basetrees.errors import InvalidOffers, NoChoice
from basetrees.limits import MOST_OFFERS
from basetrees.told import turns_told
from basetrees.zigzags import ways


def best_question(web, told, offers):
    """The index of the first offered line that leaves the fewest choices at the worse answer."""
    turns = turns_told(web, told)
    _check_offers(web, offers)
    turns.check()
    left = [_most_left(turns, line) for line in offers]
    return left.index(min(left))


def enough(web):
    """The least number of questions with which one can tell any choice."""
    all_ways = ways(web)
    if 0 in all_ways:
        raise NoChoice()
    # A question is about one zigzag, and the worse answer leaves at least half of its ways.
    return sum([(many - 1).bit_length() for many in all_ways])


def asked(web, told):
    """The tuple of the lines that are neither sure nor never kept in the choices that fit the told lines."""
    turns = turns_told(web, told)
    return tuple([line for line in web.lines if turns.verdict(line) == "open"])


def _most_left(turns, line):
    many = turns.many_with(line)
    return max(many, turns.many - many)


def _check_offers(web, offers):
    if not isinstance(offers, tuple) or not offers:
        raise InvalidOffers(None)
    for index, line in enumerate(offers):
        if index == MOST_OFFERS or not is_line(web, line):
            raise InvalidOffers(index)
