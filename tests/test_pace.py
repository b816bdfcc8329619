"""That answers come soon, also for webs of forty copies; told by what plain work takes on the same machine."""

import unittest

from basetrees.webs import Web
from basetrees.zigzags import kinds, ways, zigzag_of, zigzags
from cases import least_time
from plain import beside
from samples import chain

# All its 77 lines are in one zigzag.
LONGEST = chain(40, (2, 1))


def compare_all(web):
    """Compare each line with all lines of the web, once."""
    return [[other for other in web.lines if beside(line, other)] for line in web.lines]


def look_all_through(web):
    """Look all copies through for each source of each copy, and for each name, once."""
    table = {name: web.sources(name) for name in web.names}
    names = [source for source, _ in web.lines] + list(web.names)
    return [tuple([copy for copy in table if name in table[copy]]) for name in names]


class ZigzagsTest(unittest.TestCase):
    def test_no_line_is_compared_with_all_lines(self):
        web = Web(LONGEST)
        self.assertEqual((len(web.names), len(web.lines), len(zigzags(web))), (40, 77, 1))
        # Two such comparisons were a call of `zigzags`; now it should be a fifth of that.
        limit = least_time(lambda: compare_all(web), 10) * 2 / 5
        for call in (zigzags, kinds, ways):
            self.assertLess(least_time(lambda: call(web), 30), limit)
        taken = least_time(lambda: [zigzag_of(web, source, copy) for source, copy in web.lines], 5)
        self.assertLess(taken, limit * len(web.lines))


class WebsTest(unittest.TestCase):
    def test_no_source_needs_a_look_through_all_copies(self):
        web = Web(LONGEST)
        last = web.names[-1]
        less, sources = web.without(last), web.sources(last)
        # Such looks take about as long as a whole call did; now it should be half of that.
        limit = least_time(lambda: look_all_through(web), 30) / 2
        self.assertLess(least_time(lambda: Web(LONGEST), 50), limit)
        self.assertLess(least_time(lambda: web.without(last), 50), limit)
        self.assertLess(least_time(lambda: less.with_copy(last, sources), 50), limit)


if __name__ == "__main__":
    unittest.main()
