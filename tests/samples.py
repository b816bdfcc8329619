"""Webs and wrong values that several tests use."""

import itertools

from basetrees.errors import NoChoice
from basetrees.webs import Web

RING = "a; b a; c a; d b c; e b c"
WIDE = "a; b a; c a; d b; e b c; f c"
EVEN = "a; b a; c b; d b c"
SHORT = "a; b a; c a; d b c"
LONG = "a; x a; y a; u y; v y; h x; i x u; j u v; k v"

PLAIN = (RING, WIDE, EVEN, SHORT, LONG)


class EqualToAll:
    """Equals everything, but is nothing of it."""

    def __eq__(self, other):
        return True

    def __hash__(self):
        return hash("a")


class Touchy:
    """Fails at whatever is asked of it."""

    def __eq__(self, other):
        raise RuntimeError("compared")

    def __hash__(self):
        raise RuntimeError("hashed")

    def __len__(self):
        raise RuntimeError("measured")

    def __iter__(self):
        raise RuntimeError("iterated")

    def __bool__(self):
        raise RuntimeError("tested")

    def __repr__(self):
        raise RuntimeError("shown")


def no_web(web):
    return web


# None of these is a string, a web or a tuple of names.
ODD = (
    None, True, False, 0, -1, 1, 2, 40, 10 ** 30, b"", b"a", b"b", b"a; b a",
    [], ["a"], ["b"], ["a", "b"], [["a"]], {}, {"a": "b"}, {"b": 1}, set(), {"a"}, {"b"}, frozenset(["a"]),
    range(2), object(), EqualToAll(), Touchy(), str, Web, no_web, NoChoice(), iter("a"),
)

# Tuples of which none is a tuple of names alone.
ODD_TUPLES = (
    (), (None,), (True,), (0,), (b"a",), (["a"],), (("a",),), (("a", "b"),), ({},), (set(),), (frozenset("a"),),
    (EqualToAll(),), (Touchy(),), (Web("a"),), (None, None), (0, 1), ("a", None), (None, "a"), ("a", 0), (-1, "a"),
    ("a", ["b"]), ({"a"}, "b"), ("a", EqualToAll()), (Touchy(), "a"), ("a", ("b",)),
)

# Strings that are no names.
NO_NAMES = (
    "", " ", "abcdefghi", "abcdefghijklmnop", "A", "Ab", "aB", "a1", "1", "a b", " a", "a ", "a;", ";", "; ", "a-b",
    "a_b", "_", "a\n", "\n", "\na", "a.b", "`", "{", "~", "a; b", "'", "ab\n",
)

LETTERS = "abcdefghijklmnopqrstuvwxyz"


def name_of(number):
    """Forty and more unlike names."""
    return LETTERS[number // 26] + LETTERS[number % 26]


def chain(many, last):
    """A web whose copies each have the two before them as sources; the last one those at `last` before it."""
    names = [name_of(number) for number in range(many)]
    parts = [names[0], f"{names[1]} {names[0]}"]
    for at in range(2, many - 1):
        parts.append(f"{names[at]} {names[at - 2]} {names[at - 1]}")
    parts.append(" ".join([names[-1], *[names[-1 - back] for back in last]]))
    return "; ".join(parts)


def stacked_rings(many):
    """A web with a copy, and then two copies again and again, both from the two before them; `many` is odd."""
    names = [name_of(number) for number in range(many)]
    parts = [names[0], f"{names[1]} {names[0]}", f"{names[2]} {names[0]}"]
    for at in range(3, many, 2):
        parts.append(f"{names[at]} {names[at - 2]} {names[at - 1]}")
        parts.append(f"{names[at + 1]} {names[at - 2]} {names[at - 1]}")
    return "; ".join(parts)


def long_row(kind):
    """A web of forty copies: a tree of fifteen, below whose eight ends there is one long zigzag of this kind."""
    names = [name_of(number) for number in range(40)]
    parts = [names[0], *[f"{names[at]} {names[(at - 1) // 2]}" for at in range(1, 15)]]
    ahead = names[7:]
    pairs = {
        "short": [(ahead[at], ahead[at + 1]) for at in range(25)],
        "ring": [*[(ahead[at], ahead[at + 1]) for at in range(24)], (ahead[24], ahead[0])],
        "wide": [(ahead[0],), *[(ahead[at], ahead[at + 1]) for at in range(23)], (ahead[23],)],
        "even": [*[(ahead[at], ahead[at + 1]) for at in range(24)], (ahead[24],)],
    }
    for at, sources in enumerate(pairs[kind]):
        parts.append(" ".join([names[15 + at], *sources]))
    return "; ".join(parts)


def single_file(many):
    """A web in which each copy comes from the one before it."""
    names = [name_of(number) for number in range(many)]
    return "; ".join([names[0], *[f"{names[at]} {names[at - 1]}" for at in range(1, many)]])


def small_texts(many):
    """The texts of all webs of so many copies with the first letters as names."""
    found = []
    rows = [()]
    for at in range(1, many):
        rows = [(*row, sources) for row in rows for sources in source_tuples(at) if fits(row, sources)]
    for row in rows:
        parts = ["a"] + [" ".join([LETTERS[at + 1], *sources]) for at, sources in enumerate(row)]
        found.append("; ".join(parts))
    return found


def source_tuples(at):
    names = LETTERS[:at]
    return [*[(name,) for name in names], *itertools.permutations(names, 2)]


def fits(row, sources):
    chosen = [name for others in row for name in others]
    return all(chosen.count(name) < 2 for name in sources)
