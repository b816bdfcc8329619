"""Wrong values for the arguments of functions, each with the error that the document lists for it."""

from basetrees.choices import choice_at
from basetrees.errors import InvalidChoice, InvalidOffers, InvalidTold, InvalidWeights, NotAWeb, UnknownName
from samples import NO_NAMES, ODD, ODD_TUPLES, WIDE, EqualToAll, Touchy

BOUND = 10 ** 12


def wrong_webs(web):
    return [(value, NotAWeb(value)) for value in (*ODD, *ODD_TUPLES, *NO_NAMES[:5], "a", WIDE, web.text, (web,), [web])]


def wrong_names(web):
    values = (*ODD, *ODD_TUPLES, *NO_NAMES, "unknown", "xx", web.text, web, web.names, web.names[0].upper())
    return [(value, UnknownName(value)) for value in values]


def wrong_copies(web, source):
    """What cannot stand behind this source as a copy."""
    others = [name for name in web.names if name not in web.copies(source)]
    return [*wrong_names(web), *[(name, UnknownName(name)) for name in others]]


def wrong_others(web, one):
    return [*wrong_names(web), (one, UnknownName(one))]


def wrong_choices(web):
    right = choice_at(web, 0)
    values = [*ODD, *ODD_TUPLES, list(right), (*right, right[-1]), right[:-1], right[::-1] + ("nobody",), (right,)]
    for at in range(len(right)):
        for value in (None, 0, True, "nobody", "", web.names[-1], web.names[at + 1], (right[at],), [right[at]],
                      EqualToAll(), Touchy()):
            values.append((*right[:at], value, *right[at + 1:]))
    return [(value, InvalidChoice(value)) for value in values]


def wrong_told(web):
    line, other = web.lines[0], web.lines[-1]
    told = (*line, True)
    found = [(value, InvalidTold(None)) for value in (*ODD, [], [told], {told: 1}, "told", {told}, iter((told,)))]
    elements = [*ODD, *ODD_TUPLES, line, (*line, 1), (*line, 0), (*line, None), (*line, "True"), (*line, True, True),
                (*line[::-1], True), [*line, True], (line, True), (line[0], line[0], True),
                (*line, EqualToAll()), (*line, Touchy())]
    for element in elements:
        found.append(((element,), InvalidTold(0)))
        found.append(((told, element, None), InvalidTold(1)))
    found.append(((told, told), InvalidTold(1)))
    found.append((((*line, False), told), InvalidTold(1)))
    found.append(((told, (*other, False), None, told), InvalidTold(2)))
    found.append(((told, (*other, False), (*other, True), None), InvalidTold(2)))
    return found


def wrong_weights(web):
    many = len(web.lines)
    values = (*ODD, [0] * many, (), (0,) * (many - 1), (0,) * (many + 1), (None,) * (many + 1), "0" * many,
              ((0,) * many,))
    found = [(value, InvalidWeights(None)) for value in values]
    for value in (None, True, False, BOUND + 1, -BOUND - 1, 10 ** 30, "0", b"0", (0,), [0], {}, set(), EqualToAll(),
                  Touchy(), str):
        for at in (0, many // 2, many - 1):
            found.append(((0,) * at + (value,) + (0,) * (many - 1 - at), InvalidWeights(at)))
        found.append(((BOUND, value) + (None,) * (many - 2), InvalidWeights(1)))
    return found


def wrong_offers(web):
    line = web.lines[0]
    found = [(value, InvalidOffers(None)) for value in (*ODD, (), [], [line], {line: 1}, "ab", {line}, iter((line,)))]
    for element in (*ODD, *ODD_TUPLES, line[::-1], (*line, True), [*line], (line[0], "nobody"), ("nobody", line[1]),
                    (line,), "ab"):
        found.append(((element,), InvalidOffers(0)))
        found.append(((line, line, element, None), InvalidOffers(2)))
    found.append(((line,) * 9, InvalidOffers(8)))
    found.append(((line,) * 8 + (None,), InvalidOffers(8)))
    found.append(((line,) * 10 + (None,), InvalidOffers(8)))
    found.append(((line,) * 7 + (None, None), InvalidOffers(7)))
    return found
