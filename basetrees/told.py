"""Told lines: what follows if lines are told to be kept or not, and which of them quarrel."""

from basetrees.checks import check_line, check_told, check_web
from basetrees.errors import NoChoice
from basetrees.turns import Turns, first_among


def how_many_told(web, told):
    """The number of choices that fit the told lines."""
    return turns_told(web, told).many


def first_told(web, told):
    """The first choice that fits the told lines; None if there is none."""
    return first_among(web, turns_told(web, told))


def judge_told(web, told, source, copy):
    """Whether a line is "sure", "never" kept or "open" in the choices that fit the told lines."""
    turns = turns_told(web, told)
    check_line(web, source, copy)
    return turns.verdict((source, copy))


def quarrels(web, told):
    """All least lots of the told lines that no choice fits, as tuples of their indexes."""
    check_web(web)
    check_told(web, told)
    turns = Turns(web, ())
    if turns.many == 0:
        return ((),)
    reaches = [turns.reach((source, copy), kept) for source, copy, kept in told]
    alone = [index for index, reach in enumerate(reaches) if _are_apart(reach, reach)]
    others = [index for index in range(len(told)) if index not in alone]
    # Turns that follow one another have one in common if each two of such rows of them do: pairs are enough.
    pairs = [(one, other) for one in others for other in others
             if one < other and _are_apart(reaches[one], reaches[other])]
    return tuple([(index,) for index in alone] + pairs)


def striking(web, told):
    """All least lots of the told lines without which some choice fits the others, as tuples of their indexes."""
    quarrelling = quarrels(web, told)
    if quarrelling == ((),):
        raise NoChoice()
    found = [()]
    for quarrel in quarrelling:
        found = _striking_too(found, quarrel)
    lots = [tuple(sorted(lot)) for lot in found]
    return tuple(sorted(sorted(lots), key=len))


def turns_told(web, told):
    """The turns of a web that are left by told lines."""
    check_web(web)
    check_told(web, told)
    turns = Turns(web, ())
    for source, copy, kept in told:
        turns.tell((source, copy), kept)
    return turns


def _are_apart(one, other):
    """Whether two reaches are of one run, and have no turn in common."""
    return one[0] == other[0] and max(one[1], other[1]) >= min(one[2], other[2])


def _striking_too(lots, quarrel):
    """The least lots that contain one of these, and something of a quarrel."""
    found = [lot for lot in lots if _meet(lot, quarrel)]
    wider = [(*lot, index) for lot in lots if not _meet(lot, quarrel) for index in quarrel]
    return found + [lot for lot in wider if not any([_is_part(one, lot) for one in found])]


def _meet(one, other):
    return any([index in other for index in one])


def _is_part(one, other):
    return all([index in other for index in one])
