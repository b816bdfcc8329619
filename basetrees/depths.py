"""Depths: who lies above whom, and how deep, in one choice or in all of them.

Where all choices are asked, they are numbered in any order, and a number whose bits tell in which of them something
is so stands for that: so all choices are gone through at once.
"""

from basetrees.checks import check_two, check_web
from basetrees.choices import check_choice
from basetrees.errors import TooMany
from basetrees.limits import MOST_WALKED
from basetrees.names import check_known
from basetrees.turns import Turns


def is_above(web, choice, one, other):
    """Whether in a choice the one copy lies above the other one."""
    check_web(web)
    check_choice(web, choice)
    check_two(web, one, other)
    return one in _way_up(web, choice, other)


def depth(web, choice, copy):
    """The number of copies above a copy in a choice."""
    check_web(web)
    check_choice(web, choice)
    check_known(copy, web.names)
    return len(_way_up(web, choice, copy)) - 1


def meeting(web, choice, one, other):
    """The name of the deepest copy that is each of both, or lies above it, in a choice."""
    check_web(web)
    check_choice(web, choice)
    check_two(web, one, other)
    way = _way_up(web, choice, other)
    return [name for name in _way_up(web, choice, one) if name in way][0]


def depth_range(web, copy):
    """The pair of the least and the greatest depth of a copy in all choices."""
    check_web(web)
    check_known(copy, web.names)
    everywhere, keeping = _bits_of(web)
    tables = {web.names[0]: {0: everywhere}}
    for name in web.names[1:]:
        tables[name] = _depths_of(web, name, tables, keeping)
    found = list(tables[copy])
    return min(found), max(found)


def judge_above(web, one, other):
    """Whether the one copy lies above the other one in all choices, "sure", in none, "never", or "open"."""
    check_web(web)
    check_two(web, one, other)
    everywhere, keeping = _bits_of(web)
    below = {name: 0 for name in web.names}
    below[one] = everywhere
    for source, copy in web.lines:
        below[copy] = below[copy] | (below[source] & keeping[source, copy])
    if below[other] == everywhere:
        return "sure"
    return "open" if below[other] else "never"


def meetings(web, one, other):
    """The tuple of all copies that are the meeting of both in some choice, in the order of the names."""
    check_web(web)
    check_two(web, one, other)
    left, keeping = _bits_of(web)
    above_one = _above(web, one, left, keeping)
    above_other = _above(web, other, left, keeping)
    found = []
    # Of two copies above a third one the deeper one comes later in the order of the names.
    for name in web.names[::-1]:
        met = left & above_one[name] & above_other[name]
        if met:
            found.append(name)
        left = left - met
    return tuple(found[::-1])


def _way_up(web, choice, copy):
    """The names of a copy and of all copies above it in a choice, from it upwards."""
    source_of = dict(zip(web.names[1:], choice))
    way = [copy]
    while way[-1] in source_of:
        way.append(source_of[way[-1]])
    return way


def _bits_of(web):
    """A number with a bit for each choice, and for each line one with the bits of those that keep it."""
    turns = Turns(web, ())
    turns.check()
    if turns.many > MOST_WALKED:
        raise TooMany(turns.many)
    everywhere = _ones(turns.many)
    # Choices are numbered as if the turns of the runs were digits, those of the first run changing fastest.
    repeats = []
    apart = 1
    for low, high in turns.reaches:
        repeats.append((apart, low, everywhere // _ones(apart * (high - low))))
        apart = apart * (high - low)
    keeping = {}
    for line in web.lines:
        run, low, high = turns.reach(line, True)
        step, first, repeat = repeats[run]
        keeping[line] = (_ones(step * max(0, high - low)) << (step * (low - first))) * repeat
    return everywhere, keeping


def _ones(many):
    return (1 << many) - 1


def _depths_of(web, copy, tables, keeping):
    """For each depth of a copy a number with the bits of the choices in which it has it; `tables` has its sources."""
    table = {}
    for source in web.sources(copy):
        for above in tables[source]:
            bits = tables[source][above] & keeping[source, copy]
            if bits:
                table[above + 1] = table.get(above + 1, 0) | bits
    return table


def _above(web, copy, everywhere, keeping):
    """For each name a number with the bits of the choices in which it is this copy, or lies above it."""
    above = {name: 0 for name in web.names}
    above[copy] = everywhere
    for source, name in web.lines[::-1]:
        above[source] = above[source] | (above[name] & keeping[source, name])
    return above
