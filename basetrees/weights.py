"""Weights of the lines: which choices are best by them, by how much, and what a line may cost."""

from basetrees.checks import check_line, check_web
from basetrees.choices import kept
from basetrees.errors import InvalidWeights, TooMany
from basetrees.integers import is_weight
from basetrees.limits import MOST_WALKED
from basetrees.turns import Turns
from basetrees.zigzags import is_ring, zigzags


def best_sum(web, weights):
    """The greatest sum of a choice."""
    _check_both(web, weights)
    _, tables = _turns_and_sums(web, weights)
    return sum([max(list(table.values())) for table in tables])


def least_sum(web, weights):
    """The least sum of a choice."""
    _check_both(web, weights)
    _, tables = _turns_and_sums(web, weights)
    return sum([min(list(table.values())) for table in tables])


def best_choice(web, weights):
    """The first one of the choices with the greatest sum."""
    _check_both(web, weights)
    turns, tables = _turns_and_sums(web, weights)
    left = [_best_turns(table) for table in tables]
    chosen = []
    for copy in web.names[1:]:
        sources = web.sources(copy)
        run, low, high = turns.reach((sources[0], copy), True)
        keeping = [turn for turn in left[run] if low <= turn < high]
        if keeping:
            left[run] = keeping
        chosen.append(sources[0] if keeping else sources[1])
    return tuple(chosen)


def how_many_best(web, weights):
    """The number of choices with the greatest sum."""
    _check_both(web, weights)
    _, tables = _turns_and_sums(web, weights)
    many = 1
    for table in tables:
        many = many * len(_best_turns(table))
    return many


def sum_of(web, weights, choice):
    """The sum of the weights of the lines that a choice keeps."""
    _check_both(web, weights)
    weight_of = dict(zip(web.lines, weights))
    return sum([weight_of[line] for line in kept(web, choice)])


def worth(web, weights, source, copy):
    """The greatest sum with a line less the one without it; None if the line is kept in all choices or in none."""
    _check_both(web, weights)
    check_line(web, source, copy)
    turns, tables = _turns_and_sums(web, weights)
    run, low, high = turns.reach((source, copy), True)
    table = tables[run]
    keeping = [table[turn] for turn in table if low <= turn < high]
    others = [table[turn] for turn in table if not low <= turn < high]
    if not keeping or not others:
        return None
    return max(keeping) - max(others)


def sums(web, weights):
    """The ascending tuple of all unlike sums of choices."""
    _check_both(web, weights)
    turns, tables = _turns_and_sums(web, weights)
    if turns.many > MOST_WALKED:
        raise TooMany(turns.many)
    found = [0]
    # The great tables come last, so that the many sums need not be gone through again and again.
    for table in sorted(tables, key=len):
        found = sorted({total + other for total in found for other in table.values()})
    return tuple(found)


def prices(web, weights):
    """Numbers for the copies and for the sources, which show that no choice has a greater sum than the best one."""
    lines = kept(web, best_choice(web, weights))
    weight_of = dict(zip(web.lines, weights))
    of_copies = {}
    of_sources = {}
    for zigzag in zigzags(web):
        _add_prices(_opened(zigzag, lines), weight_of, of_copies, of_sources)
    no_ends = [name for name in web.names if name not in web.ends]
    return tuple([of_copies[name] for name in web.names[1:]]), tuple([of_sources[name] for name in no_ends])


def _check_both(web, weights):
    check_web(web)
    if not isinstance(weights, tuple) or len(weights) != len(web.lines):
        raise InvalidWeights(None)
    for index, weight in enumerate(weights):
        if not is_weight(weight):
            raise InvalidWeights(index)


def _turns_and_sums(web, weights):
    """The turns of a web, and for each run a dict with the sum of the lines that are kept at each of its turns."""
    turns = Turns(web, ())
    turns.check()
    tables = [{at: 0 for at in range(first, behind)} for first, behind in turns.reaches]
    for line, weight in zip(web.lines, weights):
        run, low, high = turns.reach(line, True)
        for turn in range(low, high):
            tables[run][turn] += weight
    return turns, tables


def _best_turns(table):
    best = max(list(table.values()))
    return [turn for turn in table if table[turn] == best]


def _opened(zigzag, lines):
    """The zigzag; of a ring what is left without one line that is not kept."""
    if not is_ring(zigzag):
        return zigzag
    # The first two lines of a ring have the same copy, so just one of them is kept.
    return zigzag[1:] if zigzag[1] in lines else zigzag[2:] + zigzag[:1]


def _add_prices(row, weight_of, of_copies, of_sources):
    """Add numbers for the copies and sources of a row, such that each of its lines weighs what they differ by.

    These numbers together are what the kept lines weigh, if the least one of a source is 0: only a source that is
    chosen twice counts twice in them, and at the best turn it is the one with the least number. Nor does a line that
    was left out of a ring weigh more than its numbers differ by, as then the other turn would be better.
    """
    copies = {}
    sources = {row[0][0]: 0}
    for source, copy in row:
        if source in sources:
            copies[copy] = sources[source] + weight_of[source, copy]
        else:
            sources[source] = copies[copy] - weight_of[source, copy]
    least = min(list(sources.values()))
    for copy in copies:
        of_copies[copy] = copies[copy] - least
    for source in sources:
        of_sources[source] = sources[source] - least
