"""The checker: whether a certificate shows a claim. It reads the text of a web and parts the web by itself."""

from basetrees.integers import is_integer, is_weight
from basetrees.names import is_one_of
from basetrees.texts import read_web

# How many elements a claim with this word has.
WORDS = {"has": 2, "lacks": 2, "sure": 4, "never": 4, "open": 4, "count": 3, "best": 4}


def accepts(claim, certificate):
    """Whether the certificate shows the claim; both may be any values."""
    if not isinstance(claim, tuple) or not claim or not isinstance(claim[0], str):
        return False
    if claim[0] not in WORDS or len(claim) != WORDS[claim[0]]:
        return False
    told = read_web(claim[1])
    if told is None:
        return False
    all_sources, all_copies = told
    if claim[0] == "has":
        return _is_choice(all_sources, all_copies, certificate)
    if claim[0] == "lacks":
        return _is_short(all_copies, certificate, [])
    if claim[0] == "count":
        return certificate is None and is_integer(claim[2]) and claim[2] == _how_many(all_sources, all_copies)
    if claim[0] == "best":
        return _shows_best(all_sources, all_copies, claim, certificate)
    return _shows_verdict(all_sources, all_copies, claim, certificate)


def _shows_verdict(all_sources, all_copies, claim, certificate):
    source, copy = claim[2:]
    if not is_one_of(copy, all_sources) or not is_one_of(source, all_sources[copy]):
        return False
    if claim[0] == "open":
        return _shows_open(all_sources, all_copies, claim[2:], certificate)
    if _is_short(all_copies, certificate, []):
        return True
    if claim[0] == "never":
        of_copy = [(other, copy) for other in all_sources[copy]]
        return _is_short(all_copies, certificate, of_copy) and source not in certificate
    if len(all_sources[copy]) == 1:
        return _are_so_many(certificate, 0)
    return _is_short(all_copies, certificate, [(source, copy)])


def _shows_open(all_sources, all_copies, line, certificate):
    if not _are_so_many(certificate, 2):
        return False
    with_line, without_line = certificate
    if not _is_choice(all_sources, all_copies, with_line) or not _is_choice(all_sources, all_copies, without_line):
        return False
    return line in _kept(all_sources, with_line) and line not in _kept(all_sources, without_line)


def _is_choice(all_sources, all_copies, value):
    """Whether any value has a source for each copy but the first one, and all that have copies are chosen."""
    if not _are_so_many(value, len(all_sources) - 1):
        return False
    if not all([is_one_of(source, all_sources[copy]) for source, copy in _kept(all_sources, value)]):
        return False
    return all([name in value for name in all_copies if all_copies[name]])


def _kept(all_sources, chosen):
    """The list of the lines from chosen sources."""
    return list(zip(chosen, list(all_sources)[1:]))


def _is_short(all_copies, value, left_out):
    """Whether any value is a lot that has fewer copies than names, if some lines are left out."""
    if not _is_lot(all_copies, value):
        return False
    copies = [copy for name in value for copy in all_copies[name] if (name, copy) not in left_out]
    return len(set(copies)) < len(value)


def _is_lot(all_copies, value):
    """Whether any value is a tuple of unlike names of copies that are no ends, in their order."""
    if not isinstance(value, tuple) or not all([is_one_of(name, all_copies) for name in value]):
        return False
    return value == tuple([name for name in all_copies if name in value and all_copies[name]])


def _how_many(all_sources, all_copies):
    """The number of choices: each part of the web chooses for itself."""
    many = 1
    left = list(all_sources)[1:]
    while left:
        part = _part_with(left[0], all_sources, all_copies)
        left = [copy for copy in left if copy not in part]
        many = many * _ways_of([source for copy in part for source in all_sources[copy]], len(part))
    return many


def _part_with(first, all_sources, all_copies):
    """The list of the copies to which one comes from the first one, from copy to copy over their sources."""
    part = []
    waiting = [first]
    while waiting:
        copy = waiting.pop()
        if copy not in part:
            part.append(copy)
            waiting.extend([other for source in all_sources[copy] for other in all_copies[source]])
    return part


def _ways_of(offered, many_copies):
    """In how many ways a part can choose; `offered` has the source of each of its lines."""
    many_sources = len(set(offered))
    if many_sources > many_copies:
        return 0
    if many_sources < many_copies:
        # Just one source is chosen twice, any of them.
        return many_sources
    # Where a part closes to a ring, it has one line more.
    return 2 if len(offered) == many_sources + many_copies else 1


def _shows_best(all_sources, all_copies, claim, certificate):
    weights, best = claim[2:]
    lines = [(source, copy) for copy in all_sources for source in all_sources[copy]]
    if not _are_so_many(weights, len(lines)) or not all([is_weight(weight) for weight in weights]):
        return False
    if not is_integer(best) or not _are_so_many(certificate, 2):
        return False
    chosen, prices = certificate
    if not _is_choice(all_sources, all_copies, chosen):
        return False
    weight_of = dict(zip(lines, weights))
    if sum([weight_of[line] for line in _kept(all_sources, chosen)]) != best:
        return False
    return _are_prices(all_copies, weight_of, best, prices)


def _are_prices(all_copies, weight_of, best, value):
    """Whether any value is a pair of rows of prices by which no choice has a sum greater than `best`."""
    names = list(all_copies)[1:]
    no_ends = [name for name in all_copies if all_copies[name]]
    if not _are_so_many(value, 2) or not _are_integers(value[0], len(names)):
        return False
    if not _are_integers(value[1], len(no_ends)) or not all([price >= 0 for price in value[1]]):
        return False
    of_copies = dict(zip(names, value[0]))
    of_sources = dict(zip(no_ends, value[1]))
    if not all([weight_of[source, copy] <= of_copies[copy] - of_sources[source] for source, copy in weight_of]):
        return False
    return sum(value[0]) - sum(value[1]) == best


def _are_integers(value, many):
    return _are_so_many(value, many) and all([is_integer(part) for part in value])


def _are_so_many(value, many):
    """Whether any value is a tuple of so many elements."""
    return isinstance(value, tuple) and len(value) == many
