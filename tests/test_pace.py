"""That answers come soon, also for webs of forty copies; told by what plain work takes on the same machine."""

import unittest

from basetrees.asking import asked, best_question, enough
from basetrees.certificates import certify_best, certify_count, certify_line, certify_web
from basetrees.checker import accepts
from basetrees.choices import choice_at, how_many, is_choice, kept, number_of
from basetrees.depths import depth, depth_range, is_above, judge_above, meeting, meetings
from basetrees.desks import Desk
from basetrees.gaps import first_freed, freeing, gaps, how_many_freed
from basetrees.judging import judge, shares, sure_lines
from basetrees.talks import talk
from basetrees.told import first_told, how_many_told, judge_told, quarrels, striking
from basetrees.webs import Web
from basetrees.weights import best_choice, best_sum, how_many_best, least_sum, prices, sum_of, sums, worth
from basetrees.zigzags import kinds, ways, zigzag_of, zigzags
from cases import least_time
from plain import beside
from samples import (TWO_THOUSAND, chain, drawn_told, drawn_weights, drawn_with_choices, filled, long_row,
                     single_file, stacked_rings)

# All its 77 lines are in one zigzag.
LONGEST = chain(40, (2, 1))
GREAT = (LONGEST, chain(40, (2,)), stacked_rings(39), single_file(40), long_row("ring"), long_row("wide"),
         drawn_with_choices(1, 36))

# In seconds; each call takes less than a hundredth of it.
SOON = 0.05


def compare_all(web):
    """Compare each line with all lines of the web, once."""
    return [[other for other in web.lines if beside(line, other)] for line in web.lines]


def look_all_through(web):
    """Look all copies through for each source of each copy, and for each name, once."""
    table = {name: web.sources(name) for name in web.names}
    names = [source for source, _ in web.lines] + list(web.names)
    return [tuple([copy for copy in table if name in table[copy]]) for name in names]


class ZigzagsTest(unittest.TestCase):
    def test_no_line_is_compared_with_all_lines(self):
        web = Web(LONGEST)
        self.assertEqual((len(web.names), len(web.lines), len(zigzags(web))), (40, 77, 1))
        # Two such comparisons were a call of `zigzags`; now it should be a fifth of that.
        limit = least_time(lambda: compare_all(web), 10) * 2 / 5
        for call in (zigzags, kinds, ways):
            self.assertLess(least_time(lambda: call(web), 30), limit)
        taken = least_time(lambda: [zigzag_of(web, source, copy) for source, copy in web.lines], 5)
        self.assertLess(taken, limit * len(web.lines))

    def test_later_functions(self):
        web = Web(LONGEST)
        limit = least_time(lambda: compare_all(web), 10)
        for call in (how_many, sure_lines, shares, gaps, freeing):
            self.assertLess(least_time(lambda: call(web), 30), limit)


class WebsTest(unittest.TestCase):
    def test_no_source_needs_a_look_through_all_copies(self):
        web = Web(LONGEST)
        last = web.names[-1]
        less, sources = web.without(last), web.sources(last)
        # Such looks take about as long as a whole call did; now it should be half of that.
        limit = least_time(lambda: look_all_through(web), 30) / 2
        self.assertLess(least_time(lambda: Web(LONGEST), 50), limit)
        self.assertLess(least_time(lambda: web.without(last), 50), limit)
        self.assertLess(least_time(lambda: less.with_copy(last, sources), 50), limit)


class SoonTest(unittest.TestCase):
    def assert_soon(self, call, *args):
        self.assertLess(least_time(lambda: call(*args), 3), SOON)

    def test_great_webs(self):
        for text in GREAT:
            web = Web(text)
            chosen = choice_at(web, how_many(web) - 1)
            for call in (how_many, sure_lines, shares, gaps, freeing):
                self.assert_soon(call, web)
            for call in (number_of, kept, is_choice):
                self.assert_soon(call, web, chosen)
            self.assert_soon(choice_at, web, how_many(web) - 1)
            self.assert_soon(judge, web, *web.lines[-1])

    def test_freed_names(self):
        for text in (*GREAT, long_row("short")):
            web = Web(text)
            names = [name for name in web.names if name not in web.ends]
            for freed in ((), tuple(names[:8]), tuple(names[-8:]), tuple(names[::4][:8])):
                self.assert_soon(how_many_freed, web, freed)
                self.assert_soon(first_freed, web, freed)

    def test_twelve_told_lines(self):
        for text in GREAT:
            web = Web(text)
            lines = web.lines[3:15]
            several = [drawn_told(5, web, 12), tuple([(*line, True) for line in lines])]
            several.append(tuple([(*line, at % 4 < 2) for at, line in enumerate(lines)]))
            for told in several:
                self.assertEqual(len(told), 12)
                for call in (how_many_told, first_told, quarrels, striking):
                    self.assert_soon(call, web, told)
            chosen = kept(web, choice_at(web, 0))
            self.assert_soon(judge_told, web, tuple([(*line, True) for line in chosen[:12]]), *web.lines[-1])

    def test_weights(self):
        for text in (*GREAT, TWO_THOUSAND, stacked_rings(23)):
            web = Web(text)
            for weights in (drawn_weights(2, web, 10 ** 12), drawn_weights(2, web, 1)):
                for call in (best_sum, least_sum, best_choice, how_many_best, prices, certify_best):
                    self.assert_soon(call, web, weights)
                self.assert_soon(sum_of, web, weights, choice_at(web, 0))
                self.assert_soon(worth, web, weights, *web.lines[-1])
                if how_many(web) <= 2000:
                    self.assert_soon(sums, web, weights)

    def test_asking_and_depths(self):
        for text in (*GREAT, TWO_THOUSAND, stacked_rings(23)):
            web = Web(text)
            chosen, one, other = choice_at(web, 0), web.names[-2], web.names[-1]
            self.assert_soon(best_question, web, (), web.lines[-8:])
            self.assert_soon(asked, web, ())
            self.assert_soon(enough, web)
            self.assert_soon(depth, web, chosen, one)
            for call in (is_above, meeting):
                self.assert_soon(call, web, chosen, one, other)
            if how_many(web) <= 2000:
                self.assert_soon(depth_range, web, one)
                for call in (judge_above, meetings):
                    self.assert_soon(call, web, one, other)

    def test_certificates(self):
        for text in (*GREAT, TWO_THOUSAND, long_row("even")):
            web = Web(text)
            for call in (certify_web, certify_count):
                self.assert_soon(call, web)
                self.assert_soon(accepts, *call(web))
            for line in web.lines[::9]:
                self.assert_soon(certify_line, web, *line)
                self.assert_soon(accepts, *certify_line(web, *line))
            self.assert_soon(accepts, *certify_best(web, drawn_weights(2, web, 10 ** 12)))

    def test_shelves_and_desks(self):
        web = Web(LONGEST)
        shelf = filled(LONGEST)
        desk = Desk()
        desk.put("l", web)
        for line in web.lines:
            desk.claim((judge(web, *line), "l", *line))
        self.assert_soon(talk, shelf, "take bn\nundo\nweb\nends\ncount\nkinds\ngaps\nline bm bn")
        self.assert_soon(desk.claim, ("count", "l", 1))
        # The web is not asked anew for each of its 77 claims.
        self.assert_soon(desk.put, "l", web)
        self.assertLess(least_time(lambda: desk.put("l", web), 9), least_time(lambda: compare_all(web), 9))


if __name__ == "__main__":
    unittest.main()
