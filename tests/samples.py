"""Webs and wrong values that several tests use."""

import itertools
import random

from basetrees.errors import NoChoice
from basetrees.shelves import Shelf
from basetrees.webs import Web
from basetrees.zigzags import kinds, zigzags

RING = "a; b a; c a; d b c; e b c"
WIDE = "a; b a; c a; d b; e b c; f c"
EVEN = "a; b a; c b; d b c"
SHORT = "a; b a; c a; d b c"
LONG = "a; x a; y a; u y; v y; h x; i x u; j u v; k v"

PLAIN = (RING, WIDE, EVEN, SHORT, LONG)


class EqualToAll:
    """Equals everything, but is nothing of it."""

    def __eq__(self, other):
        return True

    def __hash__(self):
        return hash("a")


class Touchy:
    """Fails at whatever is asked of it."""

    def __eq__(self, other):
        raise RuntimeError("compared")

    def __hash__(self):
        raise RuntimeError("hashed")

    def __len__(self):
        raise RuntimeError("measured")

    def __iter__(self):
        raise RuntimeError("iterated")

    def __bool__(self):
        raise RuntimeError("tested")

    def __repr__(self):
        raise RuntimeError("shown")


def no_web(web):
    return web


# None of these is a string, a web or a tuple of names.
ODD = (
    None, True, False, 0, -1, 1, 2, 40, 10 ** 30, b"", b"a", b"b", b"a; b a",
    [], ["a"], ["b"], ["a", "b"], [["a"]], {}, {"a": "b"}, {"b": 1}, set(), {"a"}, {"b"}, frozenset(["a"]),
    range(2), object(), EqualToAll(), Touchy(), str, Web, no_web, NoChoice(), iter("a"),
)

# Tuples of which none is a tuple of names alone.
ODD_TUPLES = (
    (), (None,), (True,), (0,), (b"a",), (["a"],), (("a",),), (("a", "b"),), ({},), (set(),), (frozenset("a"),),
    (EqualToAll(),), (Touchy(),), (Web("a"),), (None, None), (0, 1), ("a", None), (None, "a"), ("a", 0), (-1, "a"),
    ("a", ["b"]), ({"a"}, "b"), ("a", EqualToAll()), (Touchy(), "a"), ("a", ("b",)),
)

# Strings that are no names.
NO_NAMES = (
    "", " ", "abcdefghi", "abcdefghijklmnop", "A", "Ab", "aB", "a1", "1", "a b", " a", "a ", "a;", ";", "; ", "a-b",
    "a_b", "_", "a\n", "\n", "\na", "a.b", "`", "{", "~", "a; b", "'", "ab\n",
)

LETTERS = "abcdefghijklmnopqrstuvwxyz"


def name_of(number):
    """Forty and more unlike names."""
    return LETTERS[number // 26] + LETTERS[number % 26]


def chain(many, last):
    """A web whose copies each have the two before them as sources; the last one those at `last` before it."""
    names = [name_of(number) for number in range(many)]
    parts = [names[0], f"{names[1]} {names[0]}"]
    for at in range(2, many - 1):
        parts.append(f"{names[at]} {names[at - 2]} {names[at - 1]}")
    parts.append(" ".join([names[-1], *[names[-1 - back] for back in last]]))
    return "; ".join(parts)


def stacked_rings(many):
    """A web with a copy, and then two copies again and again, both from the two before them; `many` is odd."""
    names = [name_of(number) for number in range(many)]
    parts = [names[0], f"{names[1]} {names[0]}", f"{names[2]} {names[0]}"]
    for at in range(3, many, 2):
        parts.append(f"{names[at]} {names[at - 2]} {names[at - 1]}")
        parts.append(f"{names[at + 1]} {names[at - 2]} {names[at - 1]}")
    return "; ".join(parts)


def long_row(kind):
    """A web of forty copies: a tree of fifteen, below whose eight ends there is one long zigzag of this kind."""
    names = [name_of(number) for number in range(40)]
    parts = [names[0], *[f"{names[at]} {names[(at - 1) // 2]}" for at in range(1, 15)]]
    ahead = names[7:]
    pairs = {
        "short": [(ahead[at], ahead[at + 1]) for at in range(25)],
        "ring": [*[(ahead[at], ahead[at + 1]) for at in range(24)], (ahead[24], ahead[0])],
        "wide": [(ahead[0],), *[(ahead[at], ahead[at + 1]) for at in range(23)], (ahead[23],)],
        "even": [*[(ahead[at], ahead[at + 1]) for at in range(24)], (ahead[24],)],
    }
    for at, sources in enumerate(pairs[kind]):
        parts.append(" ".join([names[15 + at], *sources]))
    return "; ".join(parts)


def grown(sizes, rings):
    """A web with a wide zigzag of each of these numbers of sources, and behind them so many rings of two copies."""
    free = [name_of(0)]
    parts = [name_of(0)]
    for at, size in enumerate((*sizes, *[2] * rings)):
        sources, free = free[:size], free[size:]
        offered = [(sources[0],), *zip(sources, sources[1:]), (sources[-1],)]
        for row in offered if at < len(sizes) else [sources, sources]:
            free.append(name_of(len(parts)))
            parts.append(" ".join([free[-1], *row]))
    return "; ".join(parts)


# Webs with just two thousand choices, and with a few more.
TWO_THOUSAND = grown((1, 1, 1, 1, 5, 5, 5, 4, 4), 0)
MORE = grown((1, 1, 1, 1, 1, 6, 6, 7, 4), 1)


def single_file(many):
    """A web in which each copy comes from the one before it."""
    names = [name_of(number) for number in range(many)]
    return "; ".join([names[0], *[f"{names[at]} {names[at - 1]}" for at in range(1, many)]])


def small_texts(many):
    """The texts of all webs of so many copies with the first letters as names."""
    found = []
    rows = [()]
    for at in range(1, many):
        rows = [(*row, sources) for row in rows for sources in source_tuples(at) if fits(row, sources)]
    for row in rows:
        parts = ["a"] + [" ".join([LETTERS[at + 1], *sources]) for at, sources in enumerate(row)]
        found.append("; ".join(parts))
    return found


def source_tuples(at):
    names = LETTERS[:at]
    return [*[(name,) for name in names], *itertools.permutations(names, 2)]


def fits(row, sources):
    chosen = [name for others in row for name in others]
    return all(chosen.count(name) < 2 for name in sources)


def texts_to_walk():
    """The texts of webs of all kinds with so few copies that all tuples of sources can be gone through."""
    small = [text for many in range(1, 6) for text in small_texts(many)]
    drawn = [drawn_text(seed, 7 + seed % 5) for seed in range(60)]
    drawn.extend([drawn_with_choices(seed, 8 + seed % 4, 85) for seed in range(60)])
    return [*small, *small_texts(6)[::7], *PLAIN, *drawn]


def drawn_text(seed, many, twos=70):
    """The text of a drawn web: with `twos` out of a hundred a copy has two sources, if there are two left."""
    drawing = random.Random(seed)
    names = [name_of(number) for number in range(many)]
    drawing.shuffle(names)
    parts = [names[0]]
    left = {names[0]: 2}
    for name in names[1:]:
        count = 2 if len(left) > 1 and drawing.randrange(100) < twos else 1
        sources = drawing.sample(sorted(left), count)
        for source in sources:
            left[source] -= 1
            if left[source] == 0:
                del left[source]
        left[name] = 2
        parts.append(" ".join([name, *sources]))
    return "; ".join(parts)


def drawn_with_choices(seed, many, twos=70):
    """The text of a drawn web without a short zigzag, of about so many copies: each short one is made even."""
    drawing = random.Random(seed)
    web = Web(drawn_text(seed, many, twos))
    while "short" in kinds(web) and len(web.names) < 40:
        zigzag = zigzags(web)[kinds(web).index("short")]
        end = drawing.choice([zigzag[0][0], zigzag[-1][0]])
        web = web.with_copy(fresh_name(web), (end,))
    while "short" in kinds(web):
        web = web.without(web.ends[-1])
    return web.text


def fresh_name(web):
    return next(name for name in (f"z{letter}" for letter in LETTERS) if name not in web.names)


def drawn_told(seed, web, many):
    """Told lines of a web, no line twice, at most so many."""
    drawing = random.Random(seed)
    lines = drawing.sample(web.lines, min(many, len(web.lines)))
    return tuple([(source, copy, drawing.random() < 0.6) for source, copy in lines])


def drawn_weights(seed, web, most):
    """Weights of a web, none of them further from 0 than this."""
    drawing = random.Random(seed)
    return tuple([drawing.randint(-most, most) for _ in web.lines])


def filled(text):
    """A shelf on which the copies of a web were put."""
    web = Web(text)
    shelf = Shelf(web.names[0])
    for name in web.names[1:]:
        shelf.put(name, web.sources(name))
    return shelf
