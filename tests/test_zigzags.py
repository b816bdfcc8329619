import unittest

from basetrees.errors import NotAWeb, UnknownName
from basetrees.webs import Web
from basetrees.zigzags import kinds, ways, zigzag_of, zigzags
from cases import Case
from plain import beside, plain_choices, plain_kind, plain_ways, told_lots
from samples import (EVEN, LONG, NO_NAMES, ODD, ODD_TUPLES, PLAIN, RING, SHORT, WIDE, chain, drawn_text, long_row,
                     single_file, small_texts, stacked_rings)

GREAT = (chain(40, (2,)), chain(40, (1,)), chain(40, (1, 2)), stacked_rings(39), single_file(40), long_row("ring"),
         long_row("wide"), long_row("even"), long_row("short"))


class DocumentTest(unittest.TestCase):
    def test_the_example(self):
        ring, wide, even, short = (
            Web("a; b a; c a; d b c; e b c"), Web("a; b a; c a; d b; e b c; f c"), Web("a; b a; c b; d b c"),
            Web("a; b a; c a; d b c"))
        self.assertEqual(
            [zigzags(ring)[1], kinds(ring), ways(ring), zigzags(wide)[1], kinds(wide), ways(wide), kinds(even),
             kinds(short), ways(short), zigzag_of(wide, "c", "f")],
            [(('b', 'd'), ('c', 'd'), ('c', 'e'), ('b', 'e')), ('wide', 'ring'), (1, 2),
             (('b', 'd'), ('b', 'e'), ('c', 'e'), ('c', 'f')), ('wide', 'wide'), (1, 2), ('even', 'even'),
             ('wide', 'short'), (1, 0), 1])


class ZigzagsTest(unittest.TestCase):
    def test_one_copy_alone(self):
        self.assertEqual((zigzags(Web("a")), kinds(Web("a")), ways(Web("a"))), ((), (), ()))

    def test_a_line_alone(self):
        web = Web("a; b a")
        self.assertEqual((zigzags(web), kinds(web), ways(web)), (((("a", "b"),),), ("even",), (1,)))
        self.assertEqual(zigzag_of(web, "a", "b"), 0)

    def test_two_lines(self):
        web = Web("a; b a; c a")
        self.assertEqual((zigzags(web), kinds(web), ways(web)), (((("a", "b"), ("a", "c")),), ("wide",), (1,)))
        web = Web(SHORT)
        self.assertEqual(zigzags(web), ((("a", "b"), ("a", "c")), (("b", "d"), ("c", "d"))))
        self.assertEqual((kinds(web), ways(web)), (("wide", "short"), (1, 0)))

    def test_a_name_can_be_source_and_copy_in_one_zigzag(self):
        web = Web("a; b a; c b a; d b c")
        self.assertEqual(
            zigzags(web), ((("a", "b"), ("a", "c"), ("b", "c"), ("b", "d"), ("c", "d")),))
        self.assertEqual((kinds(web), ways(web)), (("even",), (1,)))

    def test_no_ring_though_the_second_line_is_beside_the_first(self):
        web = Web("a; b a; c b; d b c")
        self.assertEqual(zigzags(web), ((("a", "b"),), (("b", "c"), ("b", "d"), ("c", "d"))))
        self.assertEqual(kinds(web), ("even", "even"))

    def test_rings(self):
        web = Web("a; b a; c a; d c b; e b c")
        self.assertEqual(zigzags(web)[1], (("c", "d"), ("b", "d"), ("b", "e"), ("c", "e")))
        web = Web("a; b a; c a; d b c; e c b")
        self.assertEqual(zigzags(web)[1], (("b", "d"), ("c", "d"), ("c", "e"), ("b", "e")))
        self.assertEqual((kinds(web), ways(web)), (("wide", "ring"), (1, 2)))
        web = Web("a; b a; c a; d b; e b c; f e c; g d; h e f; i f d; j g h; k h g")
        self.assertEqual(kinds(web), ("wide", "wide", "ring"))
        self.assertEqual(
            zigzags(web)[2], (("g", "j"), ("h", "j"), ("h", "k"), ("g", "k")))

    def test_a_ring_of_three_sources(self):
        web = Web("a; b a; c a; d b; e b; f c; g f d; h e d; i f e")
        self.assertEqual(kinds(web), ("wide", "wide", "even", "ring"))
        self.assertEqual(
            zigzags(web)[3], (("f", "g"), ("d", "g"), ("d", "h"), ("e", "h"), ("e", "i"), ("f", "i")))
        self.assertEqual(ways(web), (1, 1, 1, 2))

    def test_a_row_begins_at_its_earlier_end(self):
        web = Web("a; x a; y a; u y; v y; h x; i x u; j u v; k v")
        self.assertEqual(
            zigzags(web)[2], (("x", "h"), ("x", "i"), ("u", "i"), ("u", "j"), ("v", "j"), ("v", "k")))
        web = Web("a; x a; y a; u y; v y; k v; i x u; j u v; h x")
        self.assertEqual(
            zigzags(web)[2], (("v", "k"), ("v", "j"), ("u", "j"), ("u", "i"), ("x", "i"), ("x", "h")))
        web = Web("a; x a; y a; u y; v y; i x u; j u v; k v; h x")
        self.assertEqual(
            zigzags(web)[2], (("v", "k"), ("v", "j"), ("u", "j"), ("u", "i"), ("x", "i"), ("x", "h")))
        web = Web("a; x a; y a; u y; v y; i x u; j u v; h x; k v")
        self.assertEqual(
            zigzags(web)[2], (("x", "h"), ("x", "i"), ("u", "i"), ("u", "j"), ("v", "j"), ("v", "k")))

    def test_they_are_ordered_by_their_earliest_lines(self):
        """The second one holds the line (b, d), which stands ahead of (d, e), but it begins behind that."""
        web = Web("a; b a; c a; d b c; e d; f b; g c")
        self.assertEqual(
            zigzags(web),
            ((("a", "b"), ("a", "c")), (("b", "f"), ("b", "d"), ("c", "d"), ("c", "g")), (("d", "e"),)))
        self.assertEqual((kinds(web), ways(web)), (("wide", "wide", "even"), (1, 2, 1)))
        self.assertEqual([zigzag_of(web, *line) for line in web.lines], [0, 0, 1, 1, 2, 1, 1])

    def test_all_small_webs(self):
        for many in range(1, 7):
            for text in small_texts(many):
                self.assert_right(Web(text), True)

    def test_drawn_webs(self):
        for seed in range(60):
            self.assert_right(Web(drawn_text(seed, 12 + seed % 29)), False)

    def test_plain_and_great_webs(self):
        for text in PLAIN:
            self.assert_right(Web(text), True)
        for text in GREAT:
            self.assert_right(Web(text), False)

    def assert_right(self, web, small):
        found = zigzags(web)
        self.assertEqual(found, told_lots(web), web.text)
        self.assertEqual(sorted([line for zigzag in found for line in zigzag]), sorted(web.lines))
        for zigzag in found:
            for one, other in zip(zigzag, zigzag[1:]):
                self.assertTrue(beside(one, other), web.text)
        self.assertEqual(kinds(web), tuple([plain_kind(zigzag) for zigzag in found]), web.text)
        for index, zigzag in enumerate(found):
            for source, copy in zigzag:
                self.assertEqual(zigzag_of(web, source, copy), index)
        if small:
            self.assert_counted(web, found)

    def assert_counted(self, web, found):
        self.assertEqual(ways(web), tuple([plain_ways(zigzag) for zigzag in found]), web.text)
        product = 1
        for number in ways(web):
            product *= number
        self.assertEqual(product, len(plain_choices(web)), web.text)

    def test_tuples_and_no_lists(self):
        for text in ("a", *PLAIN, *GREAT):
            web = Web(text)
            for value in (zigzags(web), kinds(web), ways(web), *zigzags(web)):
                self.assertIs(type(value), tuple)
            for line in [line for zigzag in zigzags(web) for line in zigzag]:
                self.assertIs(type(line), tuple)
                self.assertEqual(len(line), 2)
            for number in ways(web):
                self.assertIs(type(number), int)
            for source, copy in web.lines:
                self.assertIs(type(zigzag_of(web, source, copy)), int)


class GreatTest(unittest.TestCase):
    def test_one_wide_zigzag(self):
        web = Web(chain(40, (2,)))
        self.assertEqual((len(web.names), len(web.lines)), (40, 76))
        self.assertEqual((len(zigzags(web)), kinds(web), ways(web)), (1, ("wide",), (38,)))

    def test_one_even_zigzag(self):
        web = Web(chain(40, (1, 2)))
        self.assertEqual((len(web.names), len(web.lines)), (40, 77))
        self.assertEqual((len(zigzags(web)), kinds(web), ways(web)), (1, ("even",), (1,)))

    def test_rings_over_rings(self):
        web = Web(stacked_rings(39))
        self.assertEqual((kinds(web), ways(web)), (("wide",) + ("ring",) * 18, (1,) + (2,) * 18))
        web = web.with_copy("last", (web.names[-1],))
        self.assertEqual((kinds(web), ways(web)), (("wide",) + ("ring",) * 18 + ("even",), (1,) + (2,) * 18 + (1,)))

    def test_lines_alone(self):
        web = Web(single_file(40))
        self.assertEqual((kinds(web), ways(web)), (("even",) * 39, (1,) * 39))
        self.assertEqual(zigzags(web), tuple([(line,) for line in web.lines]))

    def test_long_rows(self):
        for kind, number, many in (("ring", 2, 50), ("wide", 24, 48), ("even", 1, 49), ("short", 0, 50)):
            web = Web(long_row(kind))
            self.assertEqual(len(web.names), 40)
            self.assertEqual(kinds(web), ("wide",) * 7 + (kind,))
            self.assertEqual(ways(web), (1,) * 7 + (number,))
            self.assertEqual(len(zigzags(web)[7]), many)

    def test_where_a_long_ring_begins(self):
        web = Web(long_row("ring"))
        ring = zigzags(web)[7]
        self.assertEqual(ring[0], (web.names[7], web.names[15]))
        self.assertEqual(ring[1], (web.names[8], web.names[15]))
        self.assertEqual(ring[-1], (web.names[7], web.names[39]))


class ArgumentsTest(Case):
    def test_by_name(self):
        for text in ("a", *PLAIN):
            web = Web(text)
            self.assertEqual(zigzags(web=web), zigzags(web))
            self.assertEqual(kinds(web=web), kinds(web))
            self.assertEqual(ways(web=web), ways(web))
            for source, copy in web.lines:
                self.assertEqual(zigzag_of(web=web, source=source, copy=copy), zigzag_of(web, source, copy))
                self.assertEqual(zigzag_of(copy=copy, web=web, source=source), zigzag_of(web, source, copy))

    def test_values_that_are_no_webs(self):
        for value in (*ODD, *ODD_TUPLES, *NO_NAMES, "a", "a; b a", WIDE, (Web("a"),), [Web("a")]):
            for call in (zigzags, kinds, ways):
                self.assert_gives(NotAWeb, value, call, value)
                self.assert_gives(NotAWeb, value, call, web=value)
            self.assert_gives(NotAWeb, value, zigzag_of, value, "a", "b")
            self.assert_gives(NotAWeb, value, zigzag_of, web=value, source="a", copy="b")

    def test_unknown_sources(self):
        web = Web(WIDE)
        for value in (*ODD, *ODD_TUPLES, *NO_NAMES, "x", "g", ("a", "b"), web):
            self.assert_gives(UnknownName, value, zigzag_of, web, value, "b")
            self.assert_gives(UnknownName, value, zigzag_of, web=web, source=value, copy="b")

    def test_unknown_copies(self):
        web = Web(WIDE)
        for value in (*ODD, *ODD_TUPLES, *NO_NAMES, "x", "g", ("a", "b"), web):
            self.assert_gives(UnknownName, value, zigzag_of, web, "a", value)
            self.assert_gives(UnknownName, value, zigzag_of, copy=value, source="a", web=web)

    def test_names_that_are_no_line(self):
        for text in ("a", *PLAIN):
            web = Web(text)
            for source in web.names:
                for copy in web.names:
                    if (source, copy) not in web.lines:
                        self.assert_gives(UnknownName, copy, zigzag_of, web, source, copy)

    def test_the_order_of_the_errors(self):
        web = Web(EVEN)
        self.assert_gives(NotAWeb, None, zigzag_of, None, 0, 1)
        self.assert_gives(UnknownName, 0, zigzag_of, web, 0, 1)
        self.assert_gives(UnknownName, 0, zigzag_of, copy=1, source=0, web=web)
        self.assert_gives(UnknownName, "x", zigzag_of, web, "x", "y")
        self.assert_gives(UnknownName, 1, zigzag_of, web, "d", 1)
        self.assert_gives(UnknownName, "a", zigzag_of, web, "b", "a")

    def test_webs_stay_as_they_are(self):
        for text in (RING, LONG, GREAT[0]):
            web = Web(text)
            first = (zigzags(web), kinds(web), ways(web), zigzag_of(web, *web.lines[-1]))
            self.assertEqual(first, (zigzags(web), kinds(web), ways(web), zigzag_of(web, *web.lines[-1])))
            self.assertEqual((web.text, web.names, web.lines), (text, Web(text).names, Web(text).lines))
            self.assertEqual(zigzags(web), zigzags(Web(text)))


if __name__ == "__main__":
    unittest.main()
