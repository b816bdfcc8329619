"""Zigzags: the parts of a web in each of which one chooses for oneself."""

from basetrees.checks import check_line, check_web

# A wide zigzag has as many ways as it has sources.
WAYS = {"ring": 2, "even": 1, "short": 0}


def zigzags(web):
    """The tuple of the zigzags, each a tuple of lines."""
    check_web(web)
    found = []
    places = {line: at for at, line in enumerate(web.lines)}
    parted = set()
    for line in web.lines:
        if line not in parted:
            zigzag = _zigzag_from(web, line, places)
            found.append(zigzag)
            for other in zigzag:
                parted.add(other)
    return tuple(found)


def kinds(web):
    """The tuple of the kinds of the zigzags: "ring", "wide", "even" or "short"."""
    return tuple([kind_of(zigzag) for zigzag in zigzags(web)])


def zigzag_of(web, source, copy):
    """The index of the zigzag with this line."""
    check_web(web)
    check_line(web, source, copy)
    return [(source, copy) in zigzag for zigzag in zigzags(web)].index(True)


def ways(web):
    """The tuple of the numbers of choices of the zigzags."""
    return tuple([_ways_of(zigzag) for zigzag in zigzags(web)])


def kind_of(zigzag):
    """The kind of a zigzag."""
    # Along a zigzag sources and copies take turns: at an even number of lines both its ends are of one sort.
    if len(zigzag) % 2 == 1:
        return "even"
    if is_ring(zigzag):
        return "ring"
    return "wide" if begins_at_copy(zigzag) else "short"


def is_ring(zigzag):
    """Whether the last line of a zigzag is beside the first one, and there are more than two."""
    # The second line of a ring is beside the first one over their copy, so the last one over their source.
    return len(zigzag) > 2 and zigzag[0][0] == zigzag[-1][0]


def begins_at_copy(row):
    """Whether the first two lines of a row, each beside the next one, are two of one source."""
    return len(row) > 1 and row[0][0] == row[1][0]


def _zigzag_from(web, earliest, places):
    ahead = _walk(web, earliest, True)
    if is_ring([earliest, *ahead]):
        return (earliest, *ahead)
    # The earliest line may stand in the middle.
    back = _walk(web, earliest, False)
    row = (*back[::-1], earliest, *ahead)
    if places[row[-1]] < places[row[0]]:
        return row[::-1]
    return row


def _walk(web, start, over_copy):
    """The lines behind this one, each beside the one before it, at first over its copy or over its source."""
    row = []
    source, copy = start
    while True:
        if over_copy:
            source = _other(web.sources(copy), source)
        else:
            copy = _other(web.copies(source), copy)
        if source is None or copy is None or (source, copy) == start:
            return row
        row.append((source, copy))
        over_copy = not over_copy


def _other(names, name):
    """The other one of two names; None if there is but one."""
    if len(names) == 1:
        return None
    return names[1] if names[0] == name else names[0]


def _ways_of(zigzag):
    kind = kind_of(zigzag)
    if kind == "wide":
        # Each of its sources has two lines.
        return len(zigzag) // 2
    return WAYS[kind]
