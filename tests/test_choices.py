import itertools
import unittest

from basetrees.choices import choice_at, how_many, is_choice, kept, number_of
from basetrees.errors import InvalidChoice, InvalidNumber, NotAWeb
from basetrees.webs import Web
from basetrees.zigzags import ways
from cases import Case
from plain import all_tuples, counted, counted_number, plain_choices
from samples import (EVEN, LONG, NO_NAMES, ODD, ODD_TUPLES, PLAIN, RING, SHORT, WIDE, chain, drawn_with_choices,
                     long_row, single_file, small_texts, stacked_rings, texts_to_walk)

GREAT = (chain(40, (2,)), chain(40, (1,)), stacked_rings(39), single_file(40), long_row("ring"), long_row("wide"),
         long_row("even"), *[drawn_with_choices(seed, 36) for seed in range(12)])
WITHOUT = (SHORT, long_row("short"), "a; b a; c a; d b c; e d", RING + "; f d e")


class DocumentTest(unittest.TestCase):
    def test_the_examples(self):
        ring, wide, even, short = (
            Web("a; b a; c a; d b c; e b c"), Web("a; b a; c a; d b; e b c; f c"), Web("a; b a; c b; d b c"),
            Web("a; b a; c a; d b c"))
        self.assertEqual(
            [how_many(ring), how_many(wide), how_many(even), how_many(short), choice_at(wide, 0), choice_at(ring, 1),
             number_of(wide, ("a", "a", "b", "c", "c")), kept(even, ("a", "b", "c")),
             is_choice(even, ("a", "b", "b"))],
            [2, 2, 1, 0, ('a', 'a', 'b', 'b', 'c'), ('a', 'a', 'c', 'b'), 1, (('a', 'b'), ('b', 'c'), ('c', 'd')),
             False])
        long = Web("a; x a; y a; u y; v y; h x; i x u; j u v; k v")
        self.assertEqual(
            [how_many(Web("a")), choice_at(Web("a"), 0), how_many(long), choice_at(long, 1)],
            [1, (), 3, ('a', 'a', 'y', 'y', 'x', 'u', 'u', 'v')])


class PlainWalkTest(Case):
    """All functions against a walk over all tuples of sources."""

    def assert_as_walked(self, web):
        expected = plain_choices(web)
        self.assertEqual(how_many(web), len(expected), web.text)
        self.assertEqual([choice_at(web, number) for number in range(len(expected))], expected, web.text)
        for number, chosen in enumerate(expected):
            self.assertEqual(number_of(web, chosen), number)
            lines = tuple([line for line in web.lines if chosen[web.names.index(line[1]) - 1] == line[0]])
            self.assertEqual(kept(web, chosen), lines)
        for number in (len(expected), len(expected) + 1, -1):
            self.assert_gives(InvalidNumber, number, choice_at, web, number)
        for chosen in all_tuples(web):
            self.assertIs(is_choice(web, chosen), chosen in expected, (web.text, chosen))

    def test_webs_of_all_kinds(self):
        for text in (*texts_to_walk(), *WITHOUT[2:]):
            self.assert_as_walked(Web(text))

    def test_several_wide_ones_and_rings(self):
        text = "a; b a; c a; d b; e b c; f c; g d e; h e d; i f; j f g; k g h; l h"
        self.assertEqual(ways(Web(text)), (1, 2, 2, 3))
        self.assert_as_walked(Web(text))

    def test_every_tuple_of_names(self):
        for text in ("a", "a; b a", *small_texts(3), *small_texts(4)[::2], SHORT, EVEN):
            web = Web(text)
            expected = plain_choices(web)
            for many in range(len(web.names) + 1):
                for value in itertools.product((*web.names, "x", None), repeat=many):
                    self.assertIs(is_choice(web, value), value in expected)
                    if value not in expected:
                        self.assert_gives(InvalidChoice, value, kept, web, value)


class OrderTest(Case):
    def test_choices_are_ordered_as_the_sources_stand_in_the_text(self):
        web = Web("a; b a; c a; d c b; e b c")
        self.assertEqual([choice_at(web, 0), choice_at(web, 1)], [("a", "a", "c", "b"), ("a", "a", "b", "c")])
        web = Web("z; b z; c z; d c; e c b; a b")
        self.assertEqual(
            [choice_at(web, 0), choice_at(web, 1)], [("z", "z", "c", "c", "b"), ("z", "z", "c", "b", "b")])

    def test_the_first_copies_count_most(self):
        web = Web(stacked_rings(9))
        rows = [[web.sources(name).index(source) for name, source in zip(web.names[1:], choice_at(web, number))]
                for number in range(8)]
        self.assertEqual(rows, sorted(rows))
        self.assertEqual([row[2::2] for row in rows], [list(row) for row in itertools.product((0, 1), repeat=3)])

    def test_great_webs(self):
        for text in GREAT:
            web = Web(text)
            many = how_many(web)
            numbers = sorted({0, many // 5, many // 3, many // 2, many - 2, many - 1} & set(range(many)))
            rows = []
            for number in numbers:
                chosen = choice_at(web, number)
                rows.append([web.sources(name).index(source) for name, source in zip(web.names[1:], chosen)])
            self.assertEqual(rows, sorted(rows))


class GreatTest(Case):
    def test_rings_over_rings(self):
        web = Web(stacked_rings(39))
        self.assertEqual(how_many(web), 2 ** 18)
        first = tuple([web.sources(name)[0 if at % 2 == 0 else -1] for at, name in enumerate(web.names[1:])])
        self.assertEqual(choice_at(web, 0), first)
        for number in (0, 1, 2, 3, 1000, 2 ** 17 - 1, 2 ** 17, 2 ** 18 - 2, 2 ** 18 - 1, *range(5, 2 ** 18, 9973)):
            chosen = choice_at(web, number)
            bits = [web.sources(name).index(source) for name, source in zip(web.names[3::2], chosen[2::2])]
            self.assertEqual(int("".join(map(str, bits)), 2), number)
            self.assertEqual(number_of(web, chosen), number)
        self.assert_gives(InvalidNumber, 2 ** 18, choice_at, web, 2 ** 18)

    def test_one_wide_zigzag(self):
        web = Web(chain(40, (2,)))
        self.assertEqual(how_many(web), 38)
        found = [choice_at(web, number) for number in range(38)]
        self.assertEqual(len(set(found)), 38)
        self.assertEqual([number_of(web, chosen) for chosen in found], list(range(38)))
        for chosen in found:
            self.assertEqual(set(chosen), set(web.names) - set(web.ends))

    def test_counted_webs(self):
        for text in GREAT:
            web = Web(text)
            many = how_many(web)
            self.assertEqual(many, counted(web), text)
            self.assertGreater(many, 0)
            for number in {0, many // 3, many // 2, many - 1}:
                chosen = choice_at(web, number)
                self.assertIs(is_choice(web, chosen), True)
                self.assertEqual(counted_number(web, chosen), number)
                self.assertEqual(number_of(web, chosen), number)
                lines = kept(web, chosen)
                self.assertEqual(lines, tuple(zip(chosen, web.names[1:])))
                self.assertTrue(set(lines) <= set(web.lines))
                self.assertEqual({source for source, _ in lines}, set(web.names) - set(web.ends))
            self.assert_gives(InvalidNumber, many, choice_at, web, many)

    def test_great_webs_without_a_choice(self):
        web = Web(long_row("short"))
        self.assertEqual(how_many(web), 0)
        self.assert_gives(InvalidNumber, 0, choice_at, web, 0)
        self.assertIs(is_choice(web, tuple([web.sources(name)[0] for name in web.names[1:]])), False)


class OneCopyTest(Case):
    def test_it_has_one_choice(self):
        web = Web("a")
        self.assertEqual((how_many(web), choice_at(web, 0), number_of(web, ()), kept(web, ())), (1, (), 0, ()))
        self.assertIs(is_choice(web, ()), True)
        for value in (("a",), ("",), [], None, ((),)):
            self.assertIs(is_choice(web, value), False)
        self.assert_gives(InvalidNumber, 1, choice_at, web, 1)
        self.assert_gives(InvalidNumber, False, choice_at, web, False)


class WithoutChoicesTest(Case):
    def test_none_is_told(self):
        for text in WITHOUT:
            web = Web(text)
            self.assertEqual(how_many(web), 0)
            for number in (0, 1, -1, 10 ** 30):
                self.assert_gives(InvalidNumber, number, choice_at, web, number)
        for text in (*WITHOUT[:1], *WITHOUT[2:]):
            web = Web(text)
            for chosen in all_tuples(web):
                self.assertIs(is_choice(web, chosen), False)
                self.assert_gives(InvalidChoice, chosen, number_of, web, chosen)
                self.assert_gives(InvalidChoice, chosen, kept, web, chosen)


class ArgumentsTest(Case):
    def test_by_name(self):
        for text in ("a", *PLAIN):
            web = Web(text)
            self.assertEqual(how_many(web=web), how_many(web))
            for number in range(how_many(web)):
                chosen = choice_at(web, number)
                self.assertEqual(choice_at(number=number, web=web), chosen)
                self.assertEqual(number_of(choice=chosen, web=web), number)
                self.assertEqual(kept(choice=chosen, web=web), kept(web, chosen))
                self.assertIs(is_choice(value=chosen, web=web), True)

    def test_kinds_of_values(self):
        for text in ("a", *PLAIN, *GREAT):
            web = Web(text)
            self.assertIs(type(how_many(web)), int)
            if how_many(web):
                chosen = choice_at(web, 0)
                self.assert_tuples_of_names(chosen)
                self.assert_tuples_of_names(kept(web, chosen))
                self.assertIs(type(number_of(web, chosen)), int)

    def test_values_that_are_no_webs(self):
        for value in (*ODD, *ODD_TUPLES, *NO_NAMES, "a", WIDE, (Web("a"),), [Web("a")]):
            self.assert_gives(NotAWeb, value, how_many, value)
            self.assert_gives(NotAWeb, value, how_many, web=value)
            for call in (choice_at, number_of, kept, is_choice):
                for other in (0, (), None, -1, "a", ("a",)):
                    self.assert_gives(NotAWeb, value, call, value, other)
            self.assert_gives(NotAWeb, value, choice_at, number=0, web=value)
            self.assert_gives(NotAWeb, value, number_of, choice=(), web=value)
            self.assert_gives(NotAWeb, value, kept, choice=(), web=value)
            self.assert_gives(NotAWeb, value, is_choice, value=(), web=value)

    def test_values_that_are_no_numbers(self):
        for text in ("a", RING, LONG, stacked_rings(39)):
            web = Web(text)
            numbers = [value for value in ODD if type(value) is int and 0 <= value < how_many(web)]
            for value in (*ODD, *ODD_TUPLES, *NO_NAMES, "0", "1", (0,), [0], b"0", web, -2, 2 ** 18, 10 ** 12):
                if any(value is number for number in numbers):
                    self.assertIs(is_choice(web, choice_at(web, value)), True)
                else:
                    self.assert_gives(InvalidNumber, value, choice_at, web, value)
                    self.assert_gives(InvalidNumber, value, choice_at, number=value, web=web)

    def test_true_and_false_are_no_numbers(self):
        for text in ("a", RING, WIDE, LONG, SHORT):
            self.assert_gives(InvalidNumber, True, choice_at, Web(text), True)
            self.assert_gives(InvalidNumber, False, choice_at, Web(text), False)

    def test_values_that_are_no_choices(self):
        web = Web(WIDE)
        good = choice_at(web, 0)
        wrong = [*ODD, *ODD_TUPLES, *NO_NAMES, list(good), set(good), dict.fromkeys(good), "aabbc", "".join(good),
                 good[:-1], good[1:], (*good, "c"), ("a", *good), (*good, None), (good,), good + good,
                 kept(web, good), web, tuple([0] * 5), ("a", "a", "b", "b", "b"), ("a", "a", "a", "b", "c"),
                 ("a", "a", "b", "d", "c"), ("a", "a", "b", "x", "c"), ("a", "a", "c", "b", "c")]
        for at in range(len(good)):
            wrong.extend([(*good[:at], value, *good[at + 1:]) for value in (*ODD, *ODD_TUPLES, *NO_NAMES, "x", "f")])
        for value in wrong:
            self.assertIs(is_choice(web, value), False)
            self.assertIs(is_choice(web=web, value=value), False)
            for call in (number_of, kept):
                self.assert_gives(InvalidChoice, value, call, web, value)
                self.assert_gives(InvalidChoice, value, call, choice=value, web=web)

    def test_a_source_that_stays_unchosen(self):
        for text, chosen in ((RING, ("a", "a", "b", "b")), (EVEN, ("a", "b", "b")), (SHORT, ("a", "a", "b"))):
            self.assertIs(is_choice(Web(text), chosen), False)
            self.assert_gives(InvalidChoice, chosen, number_of, Web(text), chosen)

    def test_what_is_passed_stays(self):
        web = Web(LONG)
        passed = list(choice_at(web, 1))
        before = list(passed)
        self.assert_gives(InvalidChoice, passed, kept, web, passed)
        self.assert_gives(InvalidChoice, passed, number_of, web, passed)
        self.assertEqual(passed, before)
        chosen = choice_at(web, 1)
        first = (how_many(web), chosen, number_of(web, chosen), kept(web, chosen))
        second = (how_many(web), choice_at(web, 1), number_of(web, chosen), kept(web, chosen))
        self.assertEqual(first, second)
        self.assertEqual((web.text, web.names, web.lines, web.ends), (
            LONG, Web(LONG).names, Web(LONG).lines, Web(LONG).ends))


if __name__ == "__main__":
    unittest.main()
