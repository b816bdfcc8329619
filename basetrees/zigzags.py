"""Zigzags: the parts of a web in each of which one chooses for oneself."""

from basetrees.checks import check_line, check_web

# A wide zigzag has as many ways as it has sources.
WAYS = {"ring": 2, "even": 1, "short": 0}


def zigzags(web):
    """The tuple of the zigzags, each a tuple of lines."""
    check_web(web)
    found = []
    parted = set()
    for line in web.lines:
        if line not in parted:
            zigzag = _zigzag_from(web, line)
            found.append(zigzag)
            for other in zigzag:
                parted.add(other)
    return tuple(found)


def kinds(web):
    """The tuple of the kinds of the zigzags: "ring", "wide", "even" or "short"."""
    return tuple([_kind(zigzag) for zigzag in zigzags(web)])


def zigzag_of(web, source, copy):
    """The index of the zigzag with this line."""
    check_web(web)
    check_line(web, source, copy)
    return [(source, copy) in zigzag for zigzag in zigzags(web)].index(True)


def ways(web):
    """The tuple of the numbers of choices of the zigzags."""
    return tuple([_ways_of(zigzag) for zigzag in zigzags(web)])


def _zigzag_from(web, earliest):
    row = _walk(web, earliest)
    if _is_ring(row):
        return tuple(row)
    # The earliest line may stand in the middle: only from an end a walk meets all lines.
    row = _walk(web, row[-1])
    if web.lines.index(row[-1]) < web.lines.index(row[0]):
        row = row[::-1]
    return tuple(row)


def _walk(web, start):
    """The lines from this one on, each beside the one before it, the earlier one first where there are two."""
    row = [start]
    ahead = _lines_beside(web, start)
    while ahead:
        row.append(ahead[0])
        ahead = [line for line in _lines_beside(web, row[-1]) if line not in row]
    return row


def _lines_beside(web, line):
    return [other for other in web.lines if _are_beside(line, other)]


def _are_beside(line, other):
    return line != other and (line[0] == other[0] or line[1] == other[1])


def _is_ring(row):
    return len(row) > 2 and _are_beside(row[0], row[-1])


def _kind(zigzag):
    many_sources = _count_sources(zigzag)
    many_copies = len({copy for _, copy in zigzag})
    if many_copies > many_sources:
        return "wide"
    if many_sources > many_copies:
        return "short"
    return "ring" if _is_ring(zigzag) else "even"


def _count_sources(zigzag):
    return len({source for source, _ in zigzag})


def _ways_of(zigzag):
    kind = _kind(zigzag)
    if kind == "wide":
        return _count_sources(zigzag)
    return WAYS[kind]
