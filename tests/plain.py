"""Plain and slow ways to what the program tells: by walks over all tuples of sources, or copy by copy."""

import itertools

from basetrees.errors import InvalidText
from basetrees.webs import Web


def beside(one, other):
    return one != other and (one[0] == other[0] or one[1] == other[1])


def told_lots(web):
    """The zigzags as the document tells them, from all sets of lines that hang together."""
    lots = {line: {line} for line in web.lines}
    for one, other in itertools.combinations(web.lines, 2):
        if beside(one, other) and lots[one] is not lots[other]:
            lots[one] |= lots[other]
            for line in lots[other]:
                lots[line] = lots[one]
    found = []
    for line in web.lines:
        if line == [other for other in web.lines if other in lots[line]][0]:
            found.append(told_lot([other for other in web.lines if other in lots[line]]))
    return tuple(found)


def told_lot(lines):
    """The lines of one zigzag, passed in the order of the web, as they are told."""
    neighbours = {line: [other for other in lines if beside(line, other)] for line in lines}
    ends = [line for line in lines if len(neighbours[line]) < 2]
    row = [ends[0]] if ends else [lines[0], neighbours[lines[0]][0]]
    while len(row) < len(lines):
        row.append([line for line in neighbours[row[-1]] if line not in row][0])
    return tuple(row)


def plain_kind(zigzag):
    many_sources = len({source for source, _ in zigzag})
    many_copies = len({copy for _, copy in zigzag})
    if len(zigzag) > 2 and beside(zigzag[0], zigzag[-1]):
        return "ring"
    return {1: "wide", 0: "even", -1: "short"}[many_copies - many_sources]


def plain_ways(zigzag):
    """The number of ways of one zigzag, counted one by one."""
    sources = {source for source, _ in zigzag}
    offered = {}
    for source, copy in zigzag:
        offered.setdefault(copy, []).append(source)
    return sum(1 for chosen in itertools.product(*offered.values()) if set(chosen) == sources)


def all_tuples(web):
    """All tuples of sources for the copies but the first one, ordered as those of 0 and 1."""
    return list(itertools.product(*[web.sources(name) for name in web.names[1:]]))


def plain_choices(web, freed=()):
    """All choices of a web, in their order; those in `freed` may stay unchosen."""
    wanted = {name for name in web.names if name not in web.ends and name not in freed}
    return [chosen for chosen in all_tuples(web) if wanted <= set(chosen)]


def kept_lines(web, chosen):
    return set(zip(chosen, web.names[1:]))


def fits(web, chosen, told):
    lines = kept_lines(web, chosen)
    return all(((source, copy) in lines) == kept for source, copy, kept in told)


def plain_verdict(web, choices, line):
    many = sum(1 for chosen in choices if line in kept_lines(web, chosen))
    if many == 0:
        return "never"
    return "sure" if many == len(choices) else "open"


def least_lots(many, is_one):
    """All least ones of the sets of numbers below `many` for which `is_one` holds, by length, then as tuples."""
    found = []
    for length in range(many + 1):
        for lot in itertools.combinations(range(many), length):
            if not any(set(other) <= set(lot) for other in found) and is_one(lot):
                found.append(lot)
    return tuple(found)


def marks(web, choices, told):
    """For each told line a number whose bits tell which choices fit it."""
    kept = [kept_lines(web, chosen) for chosen in choices]
    return [sum(1 << at for at, lines in enumerate(kept) if ((line[0], line[1]) in lines) == line[2]) for line in told]


def fitting(choices, bits, lot):
    """A number whose bits tell which choices fit all told lines of a lot."""
    left = (1 << len(choices)) - 1
    for index in lot:
        left &= bits[index]
    return left


def plain_quarrels(web, choices, told):
    bits = marks(web, choices, told)
    return least_lots(len(told), lambda lot: fitting(choices, bits, lot) == 0)


def plain_striking(web, choices, told):
    bits = marks(web, choices, told)
    indexes = range(len(told))
    return least_lots(
        len(told), lambda lot: fitting(choices, bits, [index for index in indexes if index not in lot]) != 0)


def counted(web, told=(), freed=()):
    """The number of choices that fit told lines, counted copy by copy along the zigzags, for great webs too."""
    order = list(dict.fromkeys(copy for lot in told_lots(web) for _, copy in lot))
    offered = {copy: [source for source in web.sources(copy) if is_let(source, copy, told)] for copy in order}
    states = {frozenset(): 1}
    done = set()
    for copy in order:
        done.add(copy)
        closed = [source for source in web.sources(copy) if set(web.copies(source)) <= done]
        after = {}
        for source in offered[copy]:
            for chosen, many in states.items():
                now = chosen | {source}
                if all(name in now or name in freed for name in closed):
                    now = now - set(closed)
                    after[now] = after.get(now, 0) + many
        states = after
    return sum(states.values())


def is_let(source, copy, told):
    """Whether told lines let this copy choose this source."""
    return all((other == source) == kept for other, name, kept in told if name == copy)


def counted_best(web, weights, told=()):
    """The greatest sum of a choice that fits told lines, and how many have it, copy by copy; None if there is none."""
    order = list(dict.fromkeys(copy for lot in told_lots(web) for _, copy in lot))
    weight_of = dict(zip(web.lines, weights))
    states = {frozenset(): (0, 1)}
    done = set()
    for copy in order:
        done.add(copy)
        closed = [source for source in web.sources(copy) if set(web.copies(source)) <= done]
        after = {}
        for source in [source for source in web.sources(copy) if is_let(source, copy, told)]:
            for chosen, (total, many) in states.items():
                now = chosen | {source}
                if all(name in now for name in closed):
                    now = now - set(closed)
                    total_now = total + weight_of[source, copy]
                    best, best_many = after.get(now, (total_now, 0))
                    if total_now > best:
                        after[now] = (total_now, many)
                    elif total_now == best:
                        after[now] = (best, best_many + many)
        states = after
    return states.get(frozenset())


def counted_first(web, told=(), freed=()):
    """The first choice that fits told lines, found source by source; None if there is none."""
    if counted(web, told, freed) == 0:
        return None
    chosen = []
    prefix = ()
    for copy in web.names[1:]:
        for source in web.sources(copy):
            if counted(web, (*prefix, (source, copy, True), *told), freed):
                break
        prefix = (*prefix, (source, copy, True))
        chosen.append(source)
    return tuple(chosen)


def counted_number(web, choice):
    """How many choices there are ahead of a choice."""
    number = 0
    prefix = ()
    for source, copy in zip(choice, web.names[1:]):
        first = web.sources(copy)[0]
        if source != first:
            number += counted(web, (*prefix, (first, copy, True)))
        prefix = (*prefix, (source, copy, True))
    return number


def plain_sum(web, weights, chosen):
    """The sum of the weights of the lines that a choice keeps."""
    lines = kept_lines(web, chosen)
    return sum(weight for line, weight in zip(web.lines, weights) if line in lines)


def are_prices(web, weights, best, value):
    """Whether a value is what the document says of prices."""
    if type(value) is not tuple or len(value) != 2:
        return False
    of_copies, of_sources = value
    no_ends = [name for name in web.names if name not in web.ends]
    if type(of_copies) is not tuple or type(of_sources) is not tuple:
        return False
    if (len(of_copies), len(of_sources)) != (len(web.names) - 1, len(no_ends)):
        return False
    if any(type(number) is not int for number in of_copies + of_sources) or any(number < 0 for number in of_sources):
        return False
    number_of = dict(zip(web.names[1:], of_copies))
    less = dict(zip(no_ends, of_sources))
    if any(weight > number_of[copy] - less[source] for (source, copy), weight in zip(web.lines, weights)):
        return False
    return sum(of_copies) - sum(of_sources) == best


def names_above(web, chosen):
    """For each copy the set of the copies above it in a choice."""
    found = {web.names[0]: set()}
    for source, copy in zip(chosen, web.names[1:]):
        found[copy] = found[source] | {source}
    return found


def plain_meeting(above, one, other):
    both = (above[one] | {one}) & (above[other] | {other})
    return max(both, key=lambda name: len(above[name]))


def least_questions(web, choices):
    """The least number of questions that tell any of the choices, from all rows of questions there are."""
    rows = [frozenset(kept_lines(web, chosen)) for chosen in choices]
    return fewest(frozenset(rows), web.lines, {})


def fewest(rows, lines, known):
    if len(rows) == 1:
        return 0
    if rows not in known:
        parts = [frozenset(row for row in rows if line in row) for line in lines]
        known[rows] = min(1 + max(fewest(part, lines, known), fewest(rows - part, lines, known))
                          for part in parts if 0 < len(part) < len(rows))
    return known[rows]


def has_kind(value, kind, many):
    """Whether a value is a tuple of so many of this kind and no other."""
    return type(value) is tuple and len(value) == many and all(type(part) is kind for part in value)


def is_lot(web, value):
    """Whether a value is what the document calls a lot."""
    no_ends = [name for name in web.names if name not in web.ends]
    if type(value) is not tuple or not all(type(name) is str and name in no_ends for name in value):
        return False
    places = [no_ends.index(name) for name in value]
    return places == sorted(set(places))


def is_short_lot(web, value, lines):
    """Whether a value is a lot with fewer copies than names, if there are but these lines."""
    return is_lot(web, value) and len({copy for source, copy in lines if source in value}) < len(value)


def is_chosen(web, value):
    """Whether a value is a choice, told without a walk."""
    if not has_kind(value, str, len(web.names) - 1):
        return False
    if not all(source in web.sources(copy) for source, copy in zip(value, web.names[1:])):
        return False
    return set(value) | set(web.ends) == set(web.names)


def plain_accepts(claim, certificate):
    """Whether a certificate shows a claim, as the document tells it for each word."""
    if type(claim) is not tuple or not claim or type(claim[0]) is not str:
        return False
    shows = {"has": (2, shows_has), "lacks": (2, shows_lacks), "sure": (4, shows_sure), "never": (4, shows_never),
             "open": (4, shows_open), "count": (3, shows_count), "best": (4, shows_best)}
    if claim[0] not in shows or len(claim) != shows[claim[0]][0]:
        return False
    try:
        web = Web(claim[1])
    except InvalidText:
        return False
    return shows[claim[0]][1](web, claim[2:], certificate)


def shows_has(web, told, certificate):
    return is_chosen(web, certificate)


def shows_lacks(web, told, certificate):
    return is_short_lot(web, certificate, web.lines)


def is_told_line(web, told):
    return has_kind(told, str, 2) and told in web.lines


def shows_sure(web, told, certificate):
    if not is_told_line(web, told):
        return False
    if is_short_lot(web, certificate, web.lines):
        return True
    if web.sources(told[1]) == told[:1]:
        return has_kind(certificate, str, 0)
    return is_short_lot(web, certificate, [line for line in web.lines if line != told])


def shows_never(web, told, certificate):
    if not is_told_line(web, told):
        return False
    if is_short_lot(web, certificate, web.lines):
        return True
    return is_short_lot(web, certificate, [line for line in web.lines if line[1] != told[1]]) and (
        told[0] not in certificate)


def shows_open(web, told, certificate):
    if not is_told_line(web, told) or not has_kind(certificate, tuple, 2):
        return False
    if not all(is_chosen(web, chosen) for chosen in certificate):
        return False
    return [told in kept_lines(web, chosen) for chosen in certificate] == [True, False]


def shows_count(web, told, certificate):
    return certificate is None and has_kind(told, int, 1) and counted(web) == told[0]


def shows_best(web, told, certificate):
    weights, best = told
    if not has_kind(weights, int, len(web.lines)) or not all(-10 ** 12 <= weight <= 10 ** 12 for weight in weights):
        return False
    if type(best) is not int or not has_kind(certificate, tuple, 2) or not is_chosen(web, certificate[0]):
        return False
    return plain_sum(web, weights, certificate[0]) == best and are_prices(web, weights, best, certificate[1])


def is_true(claim):
    """Whether what a claim of the right form says is so, from a walk over all tuples of sources."""
    word, web = claim[0], Web(claim[1])
    choices = plain_choices(web)
    if word in ("has", "lacks"):
        return (len(choices) > 0) == (word == "has")
    if word == "count":
        return len(choices) == claim[2]
    if word == "best":
        return bool(choices) and max(plain_sum(web, claim[2], chosen) for chosen in choices) == claim[3]
    keeping = [claim[2:] in kept_lines(web, chosen) for chosen in choices]
    return {"sure": all(keeping), "never": not any(keeping), "open": any(keeping) and not all(keeping)}[word]
