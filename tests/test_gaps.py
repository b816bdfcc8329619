import itertools
import unittest

from basetrees.choices import choice_at, how_many
from basetrees.errors import InvalidFreed, NotAWeb
from basetrees.gaps import first_freed, freeing, gaps, how_many_freed
from basetrees.webs import Web
from cases import Case
from plain import all_tuples, counted, counted_first, plain_choices, plain_kind, told_lots
from samples import (EVEN, LONG, NO_NAMES, ODD, ODD_TUPLES, PLAIN, RING, SHORT, WIDE, chain, drawn_text, long_row,
                     single_file, small_texts, stacked_rings)

GREAT = (chain(40, (2,)), chain(40, (1, 2)), stacked_rings(39), single_file(40), long_row("ring"), long_row("wide"),
         long_row("even"), long_row("short"), *[drawn_text(seed, 40) for seed in range(8)])


def no_ends(web):
    return [name for name in web.names if name not in web.ends]


def lots_of(names, most):
    """All tuples of unlike names, at most so many."""
    return [lot for many in range(most + 1) for lot in itertools.combinations(names, many)]


class DocumentTest(unittest.TestCase):
    def test_the_example(self):
        ring, wide, short = (
            Web("a; b a; c a; d b c; e b c"), Web("a; b a; c a; d b; e b c; f c"), Web("a; b a; c a; d b c"))
        self.assertEqual(
            [gaps(short), freeing(short), gaps(wide), how_many_freed(short, ("b",)), how_many_freed(short, ("b", "c")),
             how_many_freed(ring, ("c",)), first_freed(short, ("b",)), first_freed(short, ())],
            [1, (('b', 'c'),), 0, 1, 2, 3, ('a', 'a', 'c'), None])


class GapsTest(Case):
    def assert_as_walked(self, web):
        wanted = set(no_ends(web))
        least = min(len(wanted - set(chosen)) for chosen in all_tuples(web))
        self.assertEqual(gaps(web), least, web.text)
        short = [zigzag for zigzag in told_lots(web) if plain_kind(zigzag) == "short"]
        expected = [{source for source, _ in zigzag} for zigzag in short]
        self.assertEqual(
            freeing(web), tuple([tuple([name for name in web.names if name in lot]) for lot in expected]), web.text)
        unchosen = {tuple(sorted(wanted - set(chosen))) for chosen in all_tuples(web)}
        those = {tuple(sorted(lot)) for lot in itertools.product(*freeing(web))}
        self.assertEqual(those, {lot for lot in unchosen if len(lot) == least}, web.text)

    def test_all_small_webs(self):
        for many in range(1, 7):
            for text in small_texts(many)[::1 if many < 6 else 9]:
                self.assert_as_walked(Web(text))

    def test_drawn_webs(self):
        for seed in range(80):
            self.assert_as_walked(Web(drawn_text(seed, 7 + seed % 5, 85)))

    def test_several_gaps(self):
        web = Web("a; b a; c a; d c b; e d; f d; g f e; h g; i g; j h i")
        self.assertEqual((gaps(web), freeing(web)), (3, (("b", "c"), ("e", "f"), ("h", "i"))))
        self.assertEqual(how_many_freed(web, ("c", "f", "i")), 1)
        self.assertEqual(how_many_freed(web, ("c", "f")), 0)
        self.assertEqual(first_freed(web, ("c", "f", "i")), ("a", "a", "b", "d", "d", "e", "g", "g", "h"))

    def test_groups_stand_in_the_order_of_their_zigzags_and_names(self):
        web = Web("z; y z; x z; w x y")
        self.assertEqual(freeing(web), (("y", "x"),))
        web = Web("a; b a; c a; d b; e b; f c; g c; h g f; i e d")
        self.assertEqual(freeing(web), (("f", "g"), ("d", "e")))

    def test_great_webs(self):
        web = Web(long_row("short"))
        self.assertEqual((gaps(web), freeing(web)), (1, (web.names[7:33],)))
        for text in GREAT:
            web = Web(text)
            self.assertEqual((gaps(web) == 0, len(freeing(web))), (how_many(web) > 0, gaps(web)))
            for at in (0, -1):
                freed = tuple([lot[at] for lot in freeing(web)])
                if len(freed) <= 8:
                    self.assertGreater(how_many_freed(web, freed), 0)
                if 0 < len(freed) <= 8:
                    self.assertEqual(how_many_freed(web, freed[1:]), 0)

    def test_webs_with_choices(self):
        for text in ("a", RING, WIDE, EVEN, LONG, stacked_rings(39)):
            self.assertEqual((gaps(Web(text)), freeing(Web(text))), (0, ()))


class FreedTest(Case):
    def assert_as_walked(self, web, freed):
        expected = plain_choices(web, freed)
        self.assertEqual(how_many_freed(web, freed), len(expected), (web.text, freed))
        self.assertEqual(first_freed(web, freed), expected[0] if expected else None, (web.text, freed))

    def test_all_small_webs(self):
        for many in range(1, 6):
            for text in small_texts(many):
                web = Web(text)
                for freed in lots_of(no_ends(web), 4):
                    self.assert_as_walked(web, freed)

    def test_webs_of_six_copies(self):
        for text in small_texts(6)[::29]:
            web = Web(text)
            for freed in lots_of(no_ends(web), 5):
                self.assert_as_walked(web, freed)

    def test_the_order_of_the_freed_ones_is_of_no_account(self):
        web = Web(LONG)
        for freed in itertools.permutations(("a", "u", "x", "v")):
            self.assert_as_walked(web, freed)

    def test_rings(self):
        web = Web("a; b a; c a; d b; e b; f c; g f d; h e d; i f e")
        for freed in lots_of(no_ends(web), 6):
            self.assert_as_walked(web, freed)
        web = Web("a; b a; c a; d b; e b; f c; o c; g d e; h e f; i f o; j o d")
        for freed in lots_of(no_ends(web), 7):
            self.assert_as_walked(web, freed)

    def test_drawn_webs(self):
        for seed in range(40):
            web = Web(drawn_text(seed, 8 + seed % 4, 85))
            for freed in lots_of(no_ends(web), 8)[seed % 5::5]:
                self.assert_as_walked(web, freed)

    def test_great_webs(self):
        for at, text in enumerate(GREAT):
            web = Web(text)
            names = no_ends(web)
            for freed in (tuple(names[:8]), tuple(names[-8:]), tuple(names[at::5][:8]), tuple(names[at % 3::4][:5])):
                self.assertEqual(how_many_freed(web, freed), counted(web, (), freed), (text, freed))
            self.assertEqual(first_freed(web, freed), counted_first(web, (), freed), (text, freed))

    def test_all_of_a_ring_but_one(self):
        web = Web(RING)
        self.assertEqual([how_many_freed(web, freed) for freed in ((), ("b",), ("b", "c"), ("a", "b", "c"))],
                         [2, 3, 4, 4])

    def test_none_freed_is_the_number_of_choices(self):
        for text in ("a", *PLAIN, *GREAT):
            web = Web(text)
            self.assertEqual(how_many_freed(web, ()), how_many(web))
            first = choice_at(web, 0) if how_many(web) else None
            self.assertEqual(first_freed(web, ()), first)

    def test_one_copy(self):
        self.assertEqual((how_many_freed(Web("a"), ()), first_freed(Web("a"), ())), (1, ()))
        self.assertEqual((gaps(Web("a")), freeing(Web("a"))), (0, ()))


class ArgumentsTest(Case):
    def assert_invalid(self, index, web, freed):
        for call in (how_many_freed, first_freed):
            self.assert_index(InvalidFreed, index, call, web, freed)
            self.assert_index(InvalidFreed, index, call, freed=freed, web=web)

    def test_by_name(self):
        for text in ("a", *PLAIN):
            web = Web(text)
            self.assertEqual((gaps(web=web), freeing(web=web)), (gaps(web), freeing(web)))
            for freed in lots_of(no_ends(web), 2):
                self.assertEqual(how_many_freed(freed=freed, web=web), how_many_freed(web, freed))
                self.assertEqual(first_freed(freed=freed, web=web), first_freed(web, freed))

    def test_kinds_of_values(self):
        for text in ("a", *PLAIN, *GREAT):
            web = Web(text)
            freed = tuple(no_ends(web)[:8])
            self.assertEqual([type(gaps(web)), type(how_many_freed(web, freed))], [int, int])
            self.assert_tuples_of_names(freeing(web))
            self.assert_tuples_of_names(first_freed(web, freed) or ())

    def test_values_that_are_no_webs(self):
        for value in (*ODD, *ODD_TUPLES, *NO_NAMES, "a", SHORT, (Web(SHORT),), [Web(SHORT)]):
            for call in (gaps, freeing):
                self.assert_gives(NotAWeb, value, call, value)
                self.assert_gives(NotAWeb, value, call, web=value)
            for call in (how_many_freed, first_freed):
                for freed in ((), ("b",), None, ("x",)):
                    self.assert_gives(NotAWeb, value, call, value, freed)
                self.assert_gives(NotAWeb, value, call, freed=(), web=value)

    def test_values_that_are_no_tuples(self):
        web = Web(SHORT)
        for value in (*ODD, *NO_NAMES, "b", "bc", "a", ["b"], ["b", "c"], {"b"}, {"b": "c"}, web):
            self.assert_invalid(None, web, value)

    def test_elements_that_are_none(self):
        web = Web(SHORT)
        for value in (*ODD, *ODD_TUPLES, *NO_NAMES, "x", "bc", "d", ("b",), web):
            self.assert_invalid(0, web, (value,))
            self.assert_invalid(0, web, (value, "b"))
            self.assert_invalid(1, web, ("b", value))
            self.assert_invalid(2, web, ("b", "c", value))
            self.assert_invalid(1, web, ("a", value, "a"))

    def test_ends(self):
        for text in ("a", *PLAIN):
            web = Web(text)
            for name in web.ends:
                self.assert_invalid(0, web, (name,))
                self.assert_invalid(len(no_ends(web)), web, (*no_ends(web), name))

    def test_names_that_come_twice(self):
        web = Web(SHORT)
        self.assert_invalid(1, web, ("b", "b"))
        self.assert_invalid(2, web, ("b", "c", "b"))
        self.assert_invalid(2, web, ("a", "c", "c", "a"))
        self.assert_invalid(1, web, ("a", "a", "x"))
        self.assert_invalid(1, web, ("a", "x", "a"))

    def test_eight_and_nine(self):
        for text in (single_file(40), stacked_rings(39), long_row("short")):
            web = Web(text)
            names = tuple(no_ends(web))
            self.assertIs(type(how_many_freed(web, names[:8])), int)
            self.assert_invalid(8, web, names[:9])
            self.assert_invalid(8, web, names[:20])
            self.assert_invalid(8, web, (*names[:8], names[0]))
            self.assert_invalid(8, web, (*names[:8], None))
            self.assert_invalid(7, web, (*names[:7], names[0], names[8]))
            self.assert_invalid(7, web, (*names[:7], web.ends[0], names[8]))

    def test_what_is_passed_stays(self):
        web = Web(SHORT)
        passed = ["b", "c"]
        self.assert_invalid(None, web, passed)
        self.assertEqual(passed, ["b", "c"])
        first = (gaps(web), freeing(web), how_many_freed(web, ("b",)), first_freed(web, ("b",)))
        self.assertEqual(first, (gaps(web), freeing(web), how_many_freed(web, ("b",)), first_freed(web, ("b",))))
        self.assertEqual((web.text, web.lines), (SHORT, Web(SHORT).lines))


if __name__ == "__main__":
    unittest.main()
