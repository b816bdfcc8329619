"""Certificates: claims about a web, and what shows them to the checker."""

from basetrees.checks import check_line, check_web
from basetrees.choices import choice_at, how_many
from basetrees.gaps import freeing, sources_of
from basetrees.judging import judge
from basetrees.told import first_told
from basetrees.weights import best_choice, best_sum, prices
from basetrees.zigzags import zigzag_of, zigzags


def certify_web(web):
    """The claim that a web has a choice, or that it has none."""
    if how_many(web) == 0:
        return ("lacks", web.text), _lacking(web)
    return ("has", web.text), choice_at(web, 0)


def certify_line(web, source, copy):
    """The claim that a line is sure, never kept or open; that it is sure if there is no choice."""
    check_web(web)
    check_line(web, source, copy)
    verdict = "sure" if how_many(web) == 0 else judge(web, source, copy)
    return (verdict, web.text, source, copy), _shown(web, source, copy, verdict)


def certify_count(web):
    """The claim how many choices a web has."""
    many = how_many(web)
    return ("count", web.text, many), None


def certify_best(web, weights):
    """The claim what the greatest sum of a choice is."""
    best = best_sum(web, weights)
    return ("best", web.text, weights, best), (best_choice(web, weights), prices(web, weights))


def _lacking(web):
    """The sources of the first short zigzag: they have one copy less."""
    return freeing(web)[0]


def _shown(web, source, copy, verdict):
    """What shows the verdict on a line."""
    if verdict == "open":
        return first_told(web, ((source, copy, True),)), first_told(web, ((source, copy, False),))
    if len(web.sources(copy)) == 1:
        return ()
    if how_many(web) == 0:
        return _lacking(web)
    line = (source, copy)
    zigzag = zigzags(web)[zigzag_of(web, source, copy)]
    if verdict == "sure":
        # Over its source it leads to as many copies as further sources: without it one copy is too few.
        return sources_of(web, [line, *_behind(zigzag, line, 0)])
    # Over its copy it leads to as many sources as copies, this one counted: if this one is taken, there are too few.
    return sources_of(web, _behind(zigzag, line, 1))


def _behind(zigzag, line, side):
    """The lines of a zigzag to which one comes from a line over its source, if the side is 0, or over its copy, 1."""
    at = zigzag.index(line)
    if at > 0 and zigzag[at - 1][side] == line[side]:
        return zigzag[:at]
    if at + 1 < len(zigzag) and zigzag[at + 1][side] == line[side]:
        return zigzag[at + 1:]
    return ()
