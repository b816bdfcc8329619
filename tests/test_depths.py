import itertools
import unittest

from basetrees.choices import choice_at, how_many
from basetrees.depths import depth, depth_range, is_above, judge_above, meeting, meetings
from basetrees.errors import NoChoice, TooMany, UnknownName
from basetrees.webs import Web
from cases import Case
from plain import names_above, plain_choices, plain_meeting
from samples import (EVEN, LONG, MORE, RING, SHORT, TWO_THOUSAND, WIDE, chain, drawn_with_choices, long_row,
                     single_file, stacked_rings, texts_to_walk)

WITHOUT = (SHORT, RING + "; f d e", "a; b a; c a; d b c; e d", long_row("short"))


def all_choices(web):
    return [choice_at(web, number) for number in range(how_many(web))]


class DocumentTest(unittest.TestCase):
    def test_the_examples(self):
        ring, wide = Web("a; b a; c a; d b c; e b c"), Web("a; b a; c a; d b; e b c; f c")
        long = Web("a; x a; y a; u y; v y; h x; i x u; j u v; k v")
        self.assertEqual(
            [is_above(wide, ("a", "a", "b", "b", "c"), "b", "e"), depth(wide, ("a", "a", "b", "b", "c"), "e"),
             meeting(wide, ("a", "a", "b", "b", "c"), "d", "e"), meeting(wide, ("a", "a", "b", "b", "c"), "b", "d")],
            [True, 2, 'b', 'b'])
        self.assertEqual(
            [depth_range(long, "i"), judge_above(long, "y", "i"), judge_above(long, "a", "k"),
             judge_above(long, "h", "i"), meetings(wide, "d", "e"), meetings(ring, "d", "e")],
            [(2, 3), 'open', 'sure', 'never', ('a', 'b'), ('a',)])


class WalkCase(Case):
    """All functions against a walk over choices."""

    def assert_in_one(self, web, chosen, pairs):
        above = names_above(web, chosen)
        for name in web.names:
            self.assertEqual(depth(web, chosen, name), len(above[name]), (web.text, chosen))
        for one, other in pairs:
            place = (web.text, chosen, one, other)
            self.assertIs(is_above(web, chosen, one, other), one in above[other], place)
            self.assertEqual(meeting(web, chosen, one, other), plain_meeting(above, one, other), place)

    def assert_in_all(self, web, choices, pairs, names):
        tables = [names_above(web, chosen) for chosen in choices]
        for name in names:
            found = [len(above[name]) for above in tables]
            self.assertEqual(depth_range(web, name), (min(found), max(found)), (web.text, name))
        for one, other in pairs:
            place = (web.text, one, other)
            are = [one in above[other] for above in tables]
            expected = "sure" if all(are) else "open" if any(are) else "never"
            self.assertEqual(judge_above(web, one, other), expected, place)
            met = {plain_meeting(above, one, other) for above in tables}
            self.assertEqual(meetings(web, one, other), tuple([name for name in web.names if name in met]), place)


class PlainWalkTest(WalkCase):
    def test_webs_of_all_kinds(self):
        for at, text in enumerate(texts_to_walk()[::2]):
            web = Web(text)
            choices = plain_choices(web)
            pairs = list(itertools.permutations(web.names, 2))
            if len(pairs) > 20:
                pairs = pairs[at % 5::5]
            for chosen in choices[::7]:
                self.assert_in_one(web, chosen, pairs)
            if choices:
                self.assert_in_all(web, choices, pairs, web.names)

    def test_all_pairs_of_some_webs(self):
        for text in (RING, WIDE, EVEN, LONG, chain(9, (2,)), stacked_rings(11), drawn_with_choices(3, 11, 85)):
            web = Web(text)
            choices = plain_choices(web)
            pairs = list(itertools.permutations(web.names, 2))
            self.assert_in_all(web, choices, pairs, web.names)
            for chosen in choices[::3]:
                self.assert_in_one(web, chosen, pairs)

    def test_drawn_webs(self):
        for seed in range(60):
            web = Web(drawn_with_choices(seed, 9 + seed % 8, 85))
            if how_many(web) < 100:
                pairs = list(itertools.permutations(web.names, 2))[seed % 9::9]
                self.assert_in_all(web, all_choices(web), pairs, web.names)

    def test_great_webs(self):
        single = "; ".join([f"z{letter} {source}" for letter, source in zip(
            "abcdefghijklmnopqrstuvwxy", ["am", *[f"z{letter}" for letter in "abcdefghijklmnopqrstuvwxy"]])])
        for at, text in enumerate((
                chain(40, (2,)), chain(40, (1,)), chain(40, (2, 1)), f"{stacked_rings(13)}; {single}",
                single_file(40), long_row("ring"), long_row("wide"), long_row("even"))):
            web = Web(text)
            pairs = list(itertools.permutations(web.names, 2))[at % 9::53]
            self.assert_in_all(web, all_choices(web), [*pairs, web.names[-2:]], web.names[-3:])
            self.assert_in_one(web, choice_at(web, how_many(web) - 1), pairs)


class ManyChoicesTest(WalkCase):
    def test_two_thousand_choices_and_more(self):
        web, more = Web(TWO_THOUSAND), Web(MORE)
        self.assertEqual((how_many(web), how_many(more)), (2000, 2016))
        pairs = [(web.names[at], web.names[-1]) for at in range(2, 36, 4)]
        self.assert_in_all(web, all_choices(web), pairs, web.names[-2:])
        self.assert_error(TooMany(2016), depth_range, more, "aa")
        self.assert_error(TooMany(2016), judge_above, more, "aa", "ab")
        self.assert_error(TooMany(2016), meetings, more, "aa", "ab")

    def test_in_one_choice_of_many(self):
        for text in (MORE, stacked_rings(39)):
            web = Web(text)
            for number in (0, 777, how_many(web) - 1):
                self.assert_in_one(web, choice_at(web, number), list(itertools.permutations(web.names, 2))[::7])

    def test_the_greatest_number_of_rings(self):
        web = Web(stacked_rings(23))
        self.assertEqual(how_many(web), 1024)
        last = web.names[-1]
        self.assertEqual(depth_range(web, last), (11, 11))
        self.assertEqual(judge_above(web, web.names[1], last), "open")
        self.assertEqual(meetings(web, last, web.names[-2]), ("aa",))


class OneCopyTest(Case):
    def test_the_first_copy(self):
        web = Web("a")
        self.assertEqual((depth(web, (), "a"), depth_range(web, "a")), (0, (0, 0)))
        self.assert_error(UnknownName("a"), is_above, web, (), "a", "a")
        self.assert_error(UnknownName("a"), meeting, web, (), "a", "a")
        self.assert_error(UnknownName("a"), judge_above, web, "a", "a")
        self.assert_error(UnknownName("a"), meetings, web, "a", "a")

    def test_two_copies(self):
        web = Web("a; b a")
        self.assertEqual((is_above(web, ("a",), "a", "b"), is_above(web, ("a",), "b", "a")), (True, False))
        self.assertEqual((judge_above(web, "a", "b"), judge_above(web, "b", "a")), ("sure", "never"))
        self.assertEqual((meeting(web, ("a",), "a", "b"), meetings(web, "b", "a")), ("a", ("a",)))


class SameTest(Case):
    def test_the_same_copy_twice(self):
        for text in (RING, WIDE, EVEN, LONG):
            web = Web(text)
            chosen = choice_at(web, 0)
            for name in web.names:
                for call in (judge_above, meetings):
                    self.assert_error(UnknownName(name), call, web, name, name)
                    self.assert_error(UnknownName(name), call, web=web, other=name, one=name)
                for call in (is_above, meeting):
                    self.assert_error(UnknownName(name), call, web, chosen, name, name)

    def test_an_unknown_name_twice(self):
        web, name = Web(RING), "nobody"
        self.assert_error(UnknownName(name), judge_above, web, name, name)
        self.assert_error(UnknownName(name), meetings, web, name, name)


class KindsTest(Case):
    def test_kinds_of_values(self):
        for text in (RING, WIDE, EVEN, LONG, chain(40, (2,)), single_file(40)):
            web = Web(text)
            chosen, one, other = choice_at(web, 0), web.names[-2], web.names[-1]
            self.assertIs(type(depth(web, chosen, one)), int)
            self.assertIs(type(is_above(web, chosen, one, other)), bool)
            self.assertIs(type(meeting(web, chosen, one, other)), str)
            found = depth_range(web, one)
            self.assertEqual((type(found), [type(number) for number in found]), (tuple, [int, int]))
            self.assertIs(type(judge_above(web, one, other)), str)
            self.assert_tuples_of_names(meetings(web, one, other))

    def test_webs_without_a_choice(self):
        for text in WITHOUT:
            web = Web(text)
            self.assert_error(NoChoice(), depth_range, web, web.names[0])
            self.assert_error(NoChoice(), judge_above, web, web.names[0], web.names[1])
            self.assert_error(NoChoice(), meetings, web, web.names[0], web.names[1])
            self.assert_error(UnknownName("x"), depth_range, web, "x")
            self.assert_error(UnknownName("x"), judge_above, web, web.names[0], "x")


if __name__ == "__main__":
    unittest.main()
