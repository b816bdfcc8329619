"""Plain and slow ways to what the program tells: by walks over all tuples of sources, or copy by copy."""

import itertools


def beside(one, other):
    return one != other and (one[0] == other[0] or one[1] == other[1])


def told_lots(web):
    """The zigzags as the document tells them, from all sets of lines that hang together."""
    lots = {line: {line} for line in web.lines}
    for one, other in itertools.combinations(web.lines, 2):
        if beside(one, other) and lots[one] is not lots[other]:
            lots[one] |= lots[other]
            for line in lots[other]:
                lots[line] = lots[one]
    found = []
    for line in web.lines:
        if line == [other for other in web.lines if other in lots[line]][0]:
            found.append(told_lot([other for other in web.lines if other in lots[line]]))
    return tuple(found)


def told_lot(lines):
    """The lines of one zigzag, passed in the order of the web, as they are told."""
    neighbours = {line: [other for other in lines if beside(line, other)] for line in lines}
    ends = [line for line in lines if len(neighbours[line]) < 2]
    row = [ends[0]] if ends else [lines[0], neighbours[lines[0]][0]]
    while len(row) < len(lines):
        row.append([line for line in neighbours[row[-1]] if line not in row][0])
    return tuple(row)


def plain_kind(zigzag):
    many_sources = len({source for source, _ in zigzag})
    many_copies = len({copy for _, copy in zigzag})
    if len(zigzag) > 2 and beside(zigzag[0], zigzag[-1]):
        return "ring"
    return {1: "wide", 0: "even", -1: "short"}[many_copies - many_sources]


def plain_ways(zigzag):
    """The number of ways of one zigzag, counted one by one."""
    sources = {source for source, _ in zigzag}
    offered = {}
    for source, copy in zigzag:
        offered.setdefault(copy, []).append(source)
    return sum(1 for chosen in itertools.product(*offered.values()) if set(chosen) == sources)


def all_tuples(web):
    """All tuples of sources for the copies but the first one, ordered as those of 0 and 1."""
    return list(itertools.product(*[web.sources(name) for name in web.names[1:]]))


def plain_choices(web, freed=()):
    """All choices of a web, in their order; those in `freed` may stay unchosen."""
    wanted = {name for name in web.names if name not in web.ends and name not in freed}
    return [chosen for chosen in all_tuples(web) if wanted <= set(chosen)]


def kept_lines(web, chosen):
    return set(zip(chosen, web.names[1:]))


def fits(web, chosen, told):
    lines = kept_lines(web, chosen)
    return all(((source, copy) in lines) == kept for source, copy, kept in told)


def plain_verdict(web, choices, line):
    many = sum(1 for chosen in choices if line in kept_lines(web, chosen))
    if many == 0:
        return "never"
    return "sure" if many == len(choices) else "open"


def least_lots(many, is_one):
    """All least ones of the sets of numbers below `many` for which `is_one` holds, by length, then as tuples."""
    found = []
    for length in range(many + 1):
        for lot in itertools.combinations(range(many), length):
            if not any(set(other) <= set(lot) for other in found) and is_one(lot):
                found.append(lot)
    return tuple(found)


def marks(web, choices, told):
    """For each told line a number whose bits tell which choices fit it."""
    kept = [kept_lines(web, chosen) for chosen in choices]
    return [sum(1 << at for at, lines in enumerate(kept) if ((line[0], line[1]) in lines) == line[2]) for line in told]


def fitting(choices, bits, lot):
    """A number whose bits tell which choices fit all told lines of a lot."""
    left = (1 << len(choices)) - 1
    for index in lot:
        left &= bits[index]
    return left


def plain_quarrels(web, choices, told):
    bits = marks(web, choices, told)
    return least_lots(len(told), lambda lot: fitting(choices, bits, lot) == 0)


def plain_striking(web, choices, told):
    bits = marks(web, choices, told)
    indexes = range(len(told))
    return least_lots(
        len(told), lambda lot: fitting(choices, bits, [index for index in indexes if index not in lot]) != 0)


def counted(web, told=(), freed=()):
    """The number of choices that fit told lines, counted copy by copy along the zigzags, for great webs too."""
    order = list(dict.fromkeys(copy for lot in told_lots(web) for _, copy in lot))
    offered = {copy: [source for source in web.sources(copy) if is_let(source, copy, told)] for copy in order}
    states = {frozenset(): 1}
    done = set()
    for copy in order:
        done.add(copy)
        closed = [source for source in web.sources(copy) if set(web.copies(source)) <= done]
        after = {}
        for source in offered[copy]:
            for chosen, many in states.items():
                now = chosen | {source}
                if all(name in now or name in freed for name in closed):
                    now = now - set(closed)
                    after[now] = after.get(now, 0) + many
        states = after
    return sum(states.values())


def is_let(source, copy, told):
    """Whether told lines let this copy choose this source."""
    return all((other == source) == kept for other, name, kept in told if name == copy)


def counted_first(web, told=(), freed=()):
    """The first choice that fits told lines, found source by source; None if there is none."""
    if counted(web, told, freed) == 0:
        return None
    chosen = []
    prefix = ()
    for copy in web.names[1:]:
        for source in web.sources(copy):
            if counted(web, (*prefix, (source, copy, True), *told), freed):
                break
        prefix = (*prefix, (source, copy, True))
        chosen.append(source)
    return tuple(chosen)


def counted_number(web, choice):
    """How many choices there are ahead of a choice."""
    number = 0
    prefix = ()
    for source, copy in zip(choice, web.names[1:]):
        first = web.sources(copy)[0]
        if source != first:
            number += counted(web, (*prefix, (first, copy, True)))
        prefix = (*prefix, (source, copy, True))
    return number
