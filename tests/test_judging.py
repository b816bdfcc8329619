import math
import unittest
from fractions import Fraction

from basetrees.errors import NotAWeb, UnknownName
from basetrees.judging import judge, shares, sure_lines
from basetrees.webs import Web
from cases import Case
from plain import counted, kept_lines, plain_choices, plain_verdict
from samples import (EVEN, LONG, NO_NAMES, ODD, ODD_TUPLES, PLAIN, RING, SHORT, WIDE, chain, drawn_with_choices,
                     long_row, single_file, stacked_rings, texts_to_walk)

GREAT = (chain(40, (2,)), chain(40, (1,)), stacked_rings(39), single_file(40), long_row("ring"), long_row("wide"),
         long_row("even"), *[drawn_with_choices(seed, 36) for seed in range(6)])
WITHOUT = (SHORT, RING + "; f d e", "a; b a; c a; d b c; e d", long_row("short"))


class DocumentTest(unittest.TestCase):
    def test_the_example(self):
        ring, wide, even = (
            Web("a; b a; c a; d b c; e b c"), Web("a; b a; c a; d b; e b c; f c"), Web("a; b a; c b; d b c"))
        long = Web("a; x a; y a; u y; v y; h x; i x u; j u v; k v")
        self.assertEqual(
            [judge(wide, "b", "d"), judge(wide, "b", "e"), judge(even, "b", "d"), sure_lines(ring), shares(wide)[2:],
             shares(long)[6:8]],
            ['sure', 'open', 'never', (('a', 'b'), ('a', 'c')), ((1, 1), (1, 2), (1, 2), (1, 1)), ((2, 3), (2, 3))])


class PlainWalkTest(Case):
    """All functions against a walk over all tuples of sources."""

    def assert_as_walked(self, web):
        choices = plain_choices(web)
        if not choices:
            self.assert_no_choice(sure_lines, web)
            self.assert_no_choice(shares, web)
            for source, copy in web.lines:
                self.assert_no_choice(judge, web, source, copy)
            return
        verdicts = [plain_verdict(web, choices, line) for line in web.lines]
        self.assertEqual([judge(web, source, copy) for source, copy in web.lines], verdicts, web.text)
        sure = tuple([line for line, verdict in zip(web.lines, verdicts) if verdict == "sure"])
        self.assertEqual(sure_lines(web), sure, web.text)
        self.assertEqual(shares(web), tuple([self.plain_share(web, choices, line) for line in web.lines]), web.text)

    def plain_share(self, web, choices, line):
        top = sum(1 for chosen in choices if line in kept_lines(web, chosen))
        divisor = math.gcd(top, len(choices))
        return top // divisor, len(choices) // divisor

    def test_webs_of_all_kinds(self):
        for text in (*texts_to_walk(), *WITHOUT[:3]):
            self.assert_as_walked(Web(text))


class SharesTest(Case):
    def test_sure_and_never_kept_lines(self):
        self.assertEqual(shares(Web(EVEN)), ((1, 1), (1, 1), (0, 1), (1, 1)))
        self.assertEqual(shares(Web("a; b a")), ((1, 1),))

    def test_without_a_common_divisor(self):
        self.assertEqual(shares(Web(RING)), ((1, 1), (1, 1), (1, 2), (1, 2), (1, 2), (1, 2)))
        web = Web("a; b a; c a; d b; e b; f c; g c; o d; h d e; i e f; j f g; k g")
        self.assertEqual(
            shares(web), ((1, 1),) * 6 + ((1, 1), (1, 4), (3, 4), (1, 2), (1, 2), (3, 4), (1, 4), (1, 1)))

    def test_great_webs(self):
        for text in GREAT:
            web = Web(text)
            many = counted(web)
            for line, share, at in zip(web.lines, shares(web), range(len(web.lines))):
                top, bottom = share
                self.assertGreater(bottom, 0)
                self.assertEqual(math.gcd(top, bottom), 1)
                if at % 5 == 0:
                    self.assertEqual(top * many, bottom * counted(web, ((*line, True),)), text)
                verdict = {(0, 1): "never", (1, 1): "sure"}.get(share, "open")
                self.assertEqual(judge(web, *line), verdict)
                self.assertEqual(line in sure_lines(web), verdict == "sure")

    def test_one_long_wide_zigzag(self):
        web = Web(chain(40, (2,)))
        self.assertEqual(len({share for share in shares(web) if share not in ((0, 1), (1, 1))}), 37)
        for name in web.names[1:]:
            found = [Fraction(*share) for share, line in zip(shares(web), web.lines) if line[1] == name]
            self.assertEqual(sum(found), 1)


class OneCopyTest(Case):
    def test_it_has_no_lines(self):
        self.assertEqual((sure_lines(Web("a")), shares(Web("a"))), ((), ()))
        self.assert_gives(UnknownName, "a", judge, Web("a"), "a", "a")


class WithoutChoicesTest(Case):
    def test_no_choice_is_raised_last(self):
        for text in WITHOUT:
            web = Web(text)
            self.assert_no_choice(sure_lines, web)
            self.assert_no_choice(sure_lines, web=web)
            self.assert_no_choice(shares, web)
            self.assert_no_choice(shares, web=web)
            source, copy = web.lines[-1]
            self.assert_no_choice(judge, web, source, copy)
            self.assert_no_choice(judge, copy=copy, web=web, source=source)
            self.assert_gives(UnknownName, "x", judge, web, "x", copy)
            self.assert_gives(UnknownName, "x", judge, web, source, "x")
            self.assert_gives(UnknownName, source, judge, web, copy, source)

    def test_also_for_lines_of_other_zigzags(self):
        self.assert_no_choice(judge, Web(SHORT), "a", "b")


class ArgumentsTest(Case):
    def test_by_name(self):
        for text in ("a", RING, WIDE, EVEN, LONG):
            web = Web(text)
            self.assertEqual(sure_lines(web=web), sure_lines(web))
            self.assertEqual(shares(web=web), shares(web))
            for source, copy in web.lines:
                self.assertEqual(judge(copy=copy, source=source, web=web), judge(web, source, copy))

    def test_kinds_of_values(self):
        for text in ("a", RING, WIDE, EVEN, LONG, *GREAT):
            web = Web(text)
            self.assert_tuples_of_names(sure_lines(web))
            self.assertIs(type(shares(web)), tuple)
            self.assertEqual(len(shares(web)), len(web.lines))
            for share in shares(web):
                self.assertIs(type(share), tuple)
                self.assertEqual([type(number) for number in share], [int, int])

    def test_values_that_are_no_webs(self):
        for value in (*ODD, *ODD_TUPLES, *NO_NAMES, "a", WIDE, (Web(WIDE),), [Web(WIDE)]):
            for call in (sure_lines, shares):
                self.assert_gives(NotAWeb, value, call, value)
                self.assert_gives(NotAWeb, value, call, web=value)
            self.assert_gives(NotAWeb, value, judge, value, "a", "b")
            self.assert_gives(NotAWeb, value, judge, value, 0, None)

    def test_unknown_names(self):
        web = Web(WIDE)
        for value in (*ODD, *ODD_TUPLES, *NO_NAMES, "x", "ab", ("a", "b"), web):
            self.assert_gives(UnknownName, value, judge, web, value, "b")
            self.assert_gives(UnknownName, value, judge, web, value, None)
            self.assert_gives(UnknownName, value, judge, web, "a", value)
            self.assert_gives(UnknownName, value, judge, copy=value, web=web, source="a")

    def test_names_that_are_no_line(self):
        for text in PLAIN:
            web = Web(text)
            for source in web.names:
                for copy in web.names:
                    if (source, copy) not in web.lines:
                        self.assert_gives(UnknownName, copy, judge, web, source, copy)

    def test_webs_stay_as_they_are(self):
        web = Web(LONG)
        first = (judge(web, "u", "i"), sure_lines(web), shares(web))
        self.assertEqual(first, (judge(web, "u", "i"), sure_lines(web), shares(web)))
        self.assertEqual((web.text, web.names, web.lines), (LONG, Web(LONG).names, Web(LONG).lines))


if __name__ == "__main__":
    unittest.main()
