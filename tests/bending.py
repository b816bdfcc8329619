"""Values that are bent in one place, and values of any kind."""

import random

from samples import EqualToAll, Touchy


def bent(value, others):
    """All values that come out if one place of a value, nested in tuples, is bent; `others` are put into places."""
    found = [other for other in others if other is not value]
    if isinstance(value, str):
        found.extend([value + " ", value[:-1], value.upper(), value.encode(), (value,), list(value), tuple(value)])
    elif isinstance(value, tuple):
        found.extend([list(value), (value,), value[::-1], (*value, None), dict(enumerate(value)), iter(value)])
        for at in range(len(value)):
            found.append(value[:at] + value[at + 1:])
            found.append(value[:at] + value[at:at + 1] + value[at:])
            found.append(value[:at] + value[at + 1:at + 2] + value[at:at + 1] + value[at + 2:])
            found.extend([(*value[:at], part, *value[at + 1:]) for part in bent(value[at], others)])
    elif isinstance(value, int):
        found.extend([value + 1, value - 1, -value, str(value), (value,), bool(value), value * 10 ** 14 + 1])
    return found


def any_value(drawing, depth, words):
    """A drawn value of any kind, nested so deep at most."""
    kind = drawing.randrange(14 if depth else 9)
    if kind < 4:
        return drawing.choice(words)
    if kind == 4:
        return drawing.randint(-3, 7)
    if kind == 5:
        return drawing.choice((None, True, False, b"", b"a", 10 ** 12, -10 ** 12 - 1, 10 ** 40))
    if kind == 6:
        return drawing.choice(("", "a", "b", "abcdefghi", "a; b a", "A", " ", "a;b", "has"))
    if kind == 7:
        return drawing.choice((object(), EqualToAll(), Touchy(), str, any_value, range(2), set(), frozenset("a")))
    parts = [any_value(drawing, depth - 1, words) for _ in range(drawing.randrange(5))] if depth else []
    if kind == 8:
        return list(parts)
    if kind == 9:
        return {at: part for at, part in enumerate(parts)}
    return tuple(parts)


def any_values(seed, many, words):
    """Drawn values of any kind, nested up to four deep."""
    drawing = random.Random(seed)
    return [any_value(drawing, 4, words) for _ in range(many)]
