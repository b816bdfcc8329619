"""The ways to choose sources in a web, counted without going through them one by one.

A zigzag is cut at each source that may stay unchosen, and what comes out are runs. Each copy of a run chooses ahead
or back along it. If one chose back and the next one ahead, the source between them would stay unchosen. So all up to
some place choose ahead, and all behind it back; how many choose ahead is the turn of the run. Whatever is told of a
line leaves turns that follow one another. In a ring without a cut all choose ahead or all back, as if they were one.
"""

from basetrees.errors import NoChoice
from basetrees.zigzags import begins_at_copy, is_ring, zigzags


class Turns:
    """The turns that are left in each run of a web.

    `many` is in how many ways one can choose with these; `reaches` has for each run the first one, and that behind
    the last.
    """

    def __init__(self, web, freed):
        self.many = 1
        self.reaches = []
        self._places = {}
        for zigzag in zigzags(web):
            if is_ring(zigzag) and not _has_one_of(zigzag, freed):
                self._add(zigzag, [(1, ahead) for _, ahead in _places_along(zigzag)])
            else:
                for run in _runs_of(zigzag, freed):
                    self._add(run, _places_along(run))
                    self._hold_ends(web, run, freed)

    def reach(self, line, kept):
        """The run of a line, and the turns with which it is kept, or is not: the first one, that behind the last."""
        run, place, ahead = self._places[line]
        low, high = self.reaches[run]
        if ahead == kept:
            return run, max(low, place), high
        return run, low, min(high, place)

    def tell(self, line, kept):
        """Leave only the turns with which a line is kept, or not."""
        run, low, high = self.reach(line, kept)
        if self.many > 0:
            before, behind = self.reaches[run]
            self.many = self.many // (behind - before) * max(0, high - low)
        self.reaches[run] = (low, high)

    def share(self, line):
        """In how many ways its run can turn so that a line is kept, and in how many at all; `many` must not be 0."""
        run, low, high = self.reach(line, True)
        before, behind = self.reaches[run]
        return max(0, high - low), behind - before

    def many_with(self, line):
        """In how many ways one can choose so that a line is kept; `many` must not be 0."""
        keeping, turning = self.share(line)
        return self.many // turning * keeping

    def check(self):
        """Raise NoChoice if no way is left."""
        if self.many == 0:
            raise NoChoice()

    def verdict(self, line):
        """Whether a line is "sure", "never" kept or "open" in the ways that are left; NoChoice if there are none."""
        self.check()
        keeping, turning = self.share(line)
        if keeping == 0:
            return "never"
        return "sure" if keeping == turning else "open"

    def _add(self, run, places):
        self.reaches.append((0, places[-1][0] + 1))
        self.many = self.many * (places[-1][0] + 1)
        for line, (place, ahead) in zip(run, places):
            self._places[line] = (len(self.reaches) - 1, place, ahead)

    def _hold_ends(self, web, run, freed):
        # A line at an end of a run is the only one of its copy or, where this is not freed, of its source.
        for source, copy in (run[0], run[-1]):
            if len(web.sources(copy)) == 1 or source not in freed:
                self.tell((source, copy), True)


def choice_among(web, turns, number):
    """The tuple of sources with this number among the ways that are left; then only its own turns are left."""
    chosen = []
    for copy in web.names[1:]:
        sources = web.sources(copy)
        many = turns.many_with((sources[0], copy))
        is_first = number < many
        if not is_first:
            number -= many
        turns.tell((sources[0], copy), is_first)
        chosen.append(sources[0] if is_first else sources[1])
    return tuple(chosen)


def first_among(web, turns):
    """The first tuple of sources among the ways that are left; None if there are none."""
    if turns.many == 0:
        return None
    return choice_among(web, turns, 0)


def _has_one_of(zigzag, freed):
    return any([source in freed for source, _ in zigzag])


def _places_along(run):
    """For each line of a run the place of its copy, counted from 1, and whether it leads ahead from there."""
    shift = 1 if begins_at_copy(run) else 0
    return [(at // 2 + 1, at % 2 == 1) for at in range(shift, shift + len(run))]


def _runs_of(zigzag, freed):
    """The runs of a zigzag, each a tuple of lines; of a ring only if it has a source that is freed."""
    row = zigzag
    if is_ring(zigzag):
        first = [_is_cut(zigzag, at, freed) for at in range(len(zigzag))].index(True)
        row = zigzag[first:] + zigzag[:first]
    cuts = [at for at in range(1, len(row)) if _is_cut(row, at, freed)]
    return [row[low:high] for low, high in zip([0, *cuts], [*cuts, len(row)])]


def _is_cut(row, at, freed):
    """Whether a line comes from the same source as the one before it, and this source is freed."""
    return row[at][0] == row[at - 1][0] and row[at][0] in freed
