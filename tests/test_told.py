import itertools
import unittest

from basetrees.choices import choice_at, how_many, kept
from basetrees.errors import InvalidTold, NotAWeb, UnknownName
from basetrees.judging import judge
from basetrees.told import first_told, how_many_told, judge_told, quarrels, striking
from basetrees.webs import Web
from cases import Case
from plain import counted, counted_first, fits, plain_choices, plain_quarrels, plain_striking, plain_verdict
from samples import (EVEN, LONG, NO_NAMES, ODD, ODD_TUPLES, PLAIN, RING, SHORT, WIDE, chain, drawn_text, drawn_told,
                     drawn_with_choices, long_row, single_file, small_texts, stacked_rings)

GREAT = (chain(40, (2,)), chain(40, (1,)), stacked_rings(39), single_file(40), long_row("ring"), long_row("wide"),
         long_row("even"), *[drawn_with_choices(seed, 36) for seed in range(8)])
WITHOUT = (SHORT, RING + "; f d e", "a; b a; c a; d b c; e d", long_row("short"))


def all_told(web, most):
    """All told lines of a web in the order of its lines, at most so many."""
    found = []
    for many in range(most + 1):
        for lines in itertools.combinations(web.lines, many):
            for row in itertools.product((True, False), repeat=many):
                found.append(tuple([(*line, word) for line, word in zip(lines, row)]))
    return found


class DocumentTest(unittest.TestCase):
    def test_the_examples(self):
        long, short = Web("a; x a; y a; u y; v y; h x; i x u; j u v; k v"), Web("a; b a; c a; d b c")
        self.assertEqual(
            [how_many_told(long, (("x", "i", True),)), first_told(long, (("x", "i", False),)),
             judge_told(long, (("u", "j", True),), "x", "i"), judge_told(long, (("v", "j", True),), "x", "i")],
            [1, ('a', 'a', 'y', 'y', 'x', 'u', 'u', 'v'), 'open', 'never'])
        seen = (("x", "i", True), ("v", "j", True), ("v", "k", False))
        self.assertEqual(
            [quarrels(long, seen), striking(long, seen), quarrels(long, seen[1:2]), striking(long, ()),
             quarrels(short, ())],
            [((2,), (0, 1)), ((0, 2), (1, 2)), (), ((),), ((),)])


class PlainWalkTest(Case):
    """All functions against a walk over all tuples of sources."""

    def assert_as_walked(self, web, choices, told):
        fitting = [chosen for chosen in choices if fits(web, chosen, told)]
        place = (web.text, told)
        self.assertEqual(how_many_told(web, told), len(fitting), place)
        self.assertEqual(first_told(web, told), fitting[0] if fitting else None, place)
        for source, copy in web.lines:
            if fitting:
                self.assertEqual(
                    judge_told(web, told, source, copy), plain_verdict(web, fitting, (source, copy)), place)
            else:
                self.assert_no_choice(judge_told, web, told, source, copy)
        self.assertEqual(quarrels(web, told), plain_quarrels(web, choices, told), place)
        if choices:
            self.assertEqual(striking(web, told), plain_striking(web, choices, told), place)
        else:
            self.assertEqual(quarrels(web, told), ((),), place)
            self.assert_no_choice(striking, web, told)

    def test_all_small_webs(self):
        for many in range(1, 5):
            for text in small_texts(many):
                web = Web(text)
                for told in all_told(web, 2):
                    self.assert_as_walked(web, plain_choices(web), told)

    def test_webs_of_five_copies(self):
        for at, text in enumerate(small_texts(5)):
            web = Web(text)
            for told in all_told(web, 3)[at % 7::41]:
                self.assert_as_walked(web, plain_choices(web), told)

    def test_plain_webs(self):
        for text in (*PLAIN, *WITHOUT[:3]):
            web = Web(text)
            for told in all_told(web, 3)[::7]:
                self.assert_as_walked(web, plain_choices(web), told)

    def test_all_told_lines_of_a_ring_and_of_a_row(self):
        for text in (RING, "a; b a; c a; d b; e b c; f c"):
            web = Web(text)
            for told in all_told(web, 4)[::3]:
                self.assert_as_walked(web, plain_choices(web), told)

    def test_drawn_webs(self):
        for seed in range(60):
            web = Web(drawn_with_choices(seed, 8 + seed % 4, 85))
            choices = plain_choices(web)
            for many in (1, 2, 3, 5, 7):
                self.assert_as_walked(web, choices, drawn_told(seed * 10 + many, web, many))

    def test_drawn_webs_with_twelve_told_lines(self):
        for seed in range(12):
            web = Web(drawn_with_choices(seed, 11, 85))
            self.assert_as_walked(web, plain_choices(web), drawn_told(seed, web, 12))

    def test_drawn_webs_of_any_kind(self):
        for seed in range(40):
            web = Web(drawn_text(seed, 7 + seed % 4, 85))
            self.assert_as_walked(web, plain_choices(web), drawn_told(seed, web, 4))


class LotsTest(Case):
    def test_their_order(self):
        web = Web(EVEN + "; e d; f d; g e f; h e f; i g; j g; k h; l h i")
        self.assertEqual(how_many(web), 2)
        told = (("e", "g", True), ("b", "d", True), ("e", "h", True), ("c", "d", False), ("f", "h", False),
                ("a", "b", True))
        self.assertEqual(quarrels(web, told), ((1,), (3,), (0, 2), (0, 4)))
        self.assertEqual(striking(web, told), ((0, 1, 3), (1, 2, 3, 4)))

    def test_lots_of_unlike_lengths(self):
        web = Web(LONG)
        told = (("v", "j", True), ("u", "i", True), ("u", "j", True), ("x", "i", True), ("v", "k", True))
        self.assertEqual(quarrels(web, told), ((0, 2), (0, 3), (1, 3)))
        self.assertEqual(striking(web, told), ((0, 1), (0, 3), (2, 3)))

    def test_a_star_of_quarrels(self):
        web = Web(chain(40, (2,)))
        names = web.names
        told = [(names[0], names[2], True)]
        told.extend([(names[at + 1], names[at + 2], False) for at in range(3, 11)])
        quarrel = quarrels(web, tuple(told))
        self.assertEqual(quarrel, plain_quarrels(web, all_choices(web), tuple(told)))
        self.assertEqual(striking(web, tuple(told)), plain_striking(web, all_choices(web), tuple(told)))

    def test_six_rings_with_two_told_lines_each(self):
        web = Web(stacked_rings(39))
        told = []
        for at in range(3, 15, 2):
            copy = web.names[at]
            told.extend([(source, copy, True) for source in web.sources(copy)])
        self.assertEqual(len(told), 12)
        self.assertEqual(quarrels(web, tuple(told)), tuple([(at, at + 1) for at in range(0, 12, 2)]))
        found = striking(web, tuple(told))
        self.assertEqual(found, tuple(itertools.product(*[(at, at + 1) for at in range(0, 12, 2)])))
        self.assertEqual(how_many_told(web, tuple(told)), 0)
        self.assertEqual(how_many_told(web, tuple(told[::2])), 2 ** 12)

    def test_lines_that_do_not_quarrel(self):
        for text in ("a", *PLAIN, *GREAT):
            web = Web(text)
            if how_many(web):
                told = tuple([(*line, True) for line in kept(web, choice_at(web, how_many(web) // 2))])[:12]
                self.assertEqual((quarrels(web, told), striking(web, told)), ((), ((),)))

    def test_a_way_that_does_not_stay(self):
        """Lines that are kept by nothing or left out by nothing quarrel each for themselves."""
        web = Web(EVEN)
        told = (("b", "d", True), ("c", "d", True), ("a", "b", False), ("b", "c", True))
        self.assertEqual(quarrels(web, told), ((0,), (2,)))
        self.assertEqual(striking(web, told), ((0, 2),))


def all_choices(web):
    return [choice_at(web, number) for number in range(how_many(web))]


class GreatTest(Case):
    def test_counted_webs(self):
        for seed, text in enumerate(GREAT):
            web = Web(text)
            for many in (1, 3, 6, 12):
                told = drawn_told(seed * 100 + many, web, many)
                self.assertEqual(how_many_told(web, told), counted(web, told), (text, told))

    def test_the_first_one(self):
        for seed, text in enumerate(GREAT):
            web = Web(text)
            for many in (2, 5):
                told = drawn_told(seed * 100 + many, web, many)
                self.assertEqual(first_told(web, told), counted_first(web, told), (text, told))

    def test_halves_belong_together(self):
        for seed, text in enumerate(GREAT):
            web = Web(text)
            told = drawn_told(seed, web, 3)
            many = how_many_told(web, told)
            for line in [line for line in web.lines if line not in [one[:2] for one in told]]:
                kept_by, left_by = [how_many_told(web, (*told, (*line, word))) for word in (True, False)]
                self.assertEqual(kept_by + left_by, many)
                if many:
                    verdict = "never" if not kept_by else "open" if left_by else "sure"
                    self.assertEqual(judge_told(web, told, *line), verdict)
                else:
                    self.assert_no_choice(judge_told, web, told, *line)

    def test_told_lines_themselves(self):
        for seed, text in enumerate(GREAT):
            web = Web(text)
            chosen = choice_at(web, how_many(web) - 1)
            lines = kept(web, chosen)
            told = tuple([(*line, line in lines) for line in web.lines[seed % 3::3]][:12])
            for source, copy, word in told:
                self.assertEqual(judge_told(web, told, source, copy), "sure" if word else "never")
            self.assertTrue(fits(web, first_told(web, told), told))

    def test_lots_against_all_choices(self):
        for seed, text in enumerate((chain(40, (2,)), long_row("wide"), long_row("ring"), long_row("even"))):
            web = Web(text)
            choices = all_choices(web)
            for many in (2, 6, 12):
                told = drawn_told(seed * 7 + many, web, many)
                self.assertEqual(quarrels(web, told), plain_quarrels(web, choices, told))
                self.assertEqual(striking(web, told), plain_striking(web, choices, told))

    def test_twelve_lines_of_one_zigzag(self):
        for text, at in ((chain(40, (2,)), 0), (long_row("wide"), 14), (long_row("ring"), 14)):
            web = Web(text)
            choices = all_choices(web)
            for step in (1, 2, 3):
                told = tuple([(*line, number % 3 != 1) for number, line in enumerate(web.lines[at::step])][:12])
                self.assertEqual(quarrels(web, told), plain_quarrels(web, choices, told))
                self.assertEqual(striking(web, told), plain_striking(web, choices, told))


class NoneToldTest(Case):
    def test_no_told_line(self):
        for text in ("a", *PLAIN, *GREAT):
            web = Web(text)
            self.assertEqual(how_many_told(web, ()), how_many(web))
            if how_many(web):
                self.assertEqual(first_told(web, ()), choice_at(web, 0))
                self.assertEqual((quarrels(web, ()), striking(web, ())), ((), ((),)))
                for source, copy in web.lines:
                    self.assertEqual(judge_told(web, (), source, copy), judge(web, source, copy))

    def test_one_copy(self):
        web = Web("a")
        self.assertEqual((how_many_told(web, ()), first_told(web, ())), (1, ()))
        self.assertEqual((quarrels(web, ()), striking(web, ())), ((), ((),)))
        self.assert_gives(UnknownName, "a", judge_told, web, (), "a", "a")
        self.assert_index(InvalidTold, 0, how_many_told, web, (("a", "a", True),))


class WithoutChoicesTest(Case):
    def test_webs_without_a_choice(self):
        for text in WITHOUT:
            web = Web(text)
            line = web.lines[-1]
            for told in ((), ((*line, True),), ((*line, False), (*web.lines[0], True))):
                self.assertEqual((how_many_told(web, told), first_told(web, told)), (0, None))
                self.assertEqual(quarrels(web, told), ((),))
                self.assert_no_choice(striking, web, told)
                self.assert_no_choice(judge_told, web, told, *line)
                self.assert_no_choice(judge_told, web, told, *web.lines[0])

    def test_told_lines_that_quarrel(self):
        web = Web(RING)
        told = (("b", "d", True), ("b", "e", True))
        self.assertEqual((how_many_told(web, told), first_told(web, told)), (0, None))
        self.assert_no_choice(judge_told, web, told, "a", "b")
        self.assertEqual((quarrels(web, told), striking(web, told)), (((0, 1),), ((0,), (1,))))

    def test_no_choice_comes_last(self):
        for web, told in ((Web(SHORT), ()), (Web(RING), (("b", "d", True), ("b", "e", True)))):
            self.assert_gives(UnknownName, "x", judge_told, web, told, "x", "b")
            self.assert_gives(UnknownName, "x", judge_told, web, told, "a", "x")
            self.assert_gives(UnknownName, "d", judge_told, web, told, "a", "d")
            self.assert_index(InvalidTold, None, judge_told, web, list(told), "a", "b")
        self.assert_index(InvalidTold, 0, striking, Web(SHORT), (None,))
        self.assert_index(InvalidTold, 0, quarrels, Web(SHORT), (None,))
        self.assert_index(InvalidTold, 0, how_many_told, Web(SHORT), (None,))
        self.assert_index(InvalidTold, 0, first_told, Web(SHORT), (None,))


class ArgumentsTest(Case):
    def calls(self):
        return (how_many_told, first_told, quarrels, striking)

    def assert_invalid(self, index, web, told):
        for call in self.calls():
            self.assert_index(InvalidTold, index, call, web, told)
            self.assert_index(InvalidTold, index, call, told=told, web=web)
        self.assert_index(InvalidTold, index, judge_told, web, told, *web.lines[0])
        self.assert_index(InvalidTold, index, judge_told, copy="x", source=None, told=told, web=web)

    def test_by_name(self):
        for text in ("a", RING, WIDE, EVEN, LONG):
            web = Web(text)
            for told in all_told(web, 1):
                for call in self.calls():
                    self.assertEqual(call(told=told, web=web), call(web, told))
                for source, copy in web.lines:
                    if how_many_told(web, told):
                        self.assertEqual(judge_told(copy=copy, source=source, told=told, web=web),
                                         judge_told(web, told, source, copy))

    def test_kinds_of_values(self):
        for seed, text in enumerate(("a", RING, WIDE, EVEN, LONG, *GREAT)):
            web = Web(text)
            told = drawn_told(seed, web, 9)
            self.assertIs(type(how_many_told(web, told)), int)
            self.assert_tuples_of_names(first_told(web, told) or ())
            for lots in (quarrels(web, told), striking(web, told)):
                self.assertIs(type(lots), tuple)
                for lot in lots:
                    self.assertIs(type(lot), tuple)
                    self.assertEqual({type(index) for index in lot}, {int} if lot else set())
                    self.assertEqual(list(lot), sorted(set(lot)))

    def test_values_that_are_no_webs(self):
        for value in (*ODD, *ODD_TUPLES, *NO_NAMES, "a", WIDE, (Web(WIDE),), [Web(WIDE)]):
            for call in self.calls():
                for told in ((), None, (None,), (("a", "b", True),)):
                    self.assert_gives(NotAWeb, value, call, value, told)
                self.assert_gives(NotAWeb, value, call, told=(), web=value)
            self.assert_gives(NotAWeb, value, judge_told, value, (), "a", "b")
            self.assert_gives(NotAWeb, value, judge_told, value, None, None, None)

    def test_values_that_are_no_tuples(self):
        web = Web(WIDE)
        for value in (*ODD, *NO_NAMES, "abc", [("a", "b", True)], [], {("a", "b"): True}, {("a", "b", True)}, web):
            self.assert_invalid(None, web, value)

    def test_elements_that_are_none(self):
        web = Web(WIDE)
        for value in (*ODD, *ODD_TUPLES, *NO_NAMES, "abt", ("a", "b"), ("a", "b", True, True), ["a", "b", True], web,
                      (("a", "b"), True), ("a", "b", True, None), {"a": 1, "b": 2, True: 3}, ((("a", "b", True)),) * 2):
            self.assert_invalid(0, web, (value,))
            self.assert_invalid(0, web, (value, ("a", "b", True)))
            self.assert_invalid(1, web, (("a", "b", True), value))
            self.assert_invalid(2, web, (("a", "b", True), ("b", "d", False), value, value))

    def test_names_that_are_none(self):
        web = Web(WIDE)
        for value in (*ODD, *ODD_TUPLES, *NO_NAMES, "x", web, ("a",)):
            self.assert_invalid(0, web, ((value, "b", True),))
            self.assert_invalid(1, web, (("a", "c", True), ("a", value, True)))
            self.assert_invalid(0, web, ((value, value, value),))

    def test_names_that_are_no_line(self):
        for text in PLAIN:
            web = Web(text)
            for source in web.names:
                for copy in web.names:
                    if (source, copy) not in web.lines:
                        self.assert_invalid(0, web, ((source, copy, True),))
                        self.assert_invalid(1, web, ((*web.lines[0], False), (source, copy, False)))

    def test_neither_true_nor_false(self):
        web = Web(WIDE)
        for value in (*ODD, *ODD_TUPLES, *NO_NAMES, "True", 1, 0, "kept", web):
            if value is not True and value is not False:
                self.assert_invalid(0, web, (("a", "b", value),))
                self.assert_invalid(1, web, (("a", "c", True), ("a", "b", value), None))

    def test_a_line_told_twice(self):
        web = Web(WIDE)
        for one, other in itertools.product((True, False), repeat=2):
            self.assert_invalid(1, web, (("a", "b", one), ("a", "b", other)))
            self.assert_invalid(2, web, (("a", "b", one), ("b", "e", True), ("a", "b", other)))
            self.assert_invalid(2, web, (("b", "e", one), ("a", "b", one), ("b", "e", other), ("a", "b", one)))
            self.assert_invalid(1, web, (("a", "b", one), None, ("a", "b", other)))

    def test_twelve_and_thirteen(self):
        for text in (*GREAT, LONG + "; l j; m k; n l; o m", drawn_text(3, 40)):
            web = Web(text)
            told = tuple([(*line, True) for line in web.lines[:14]])
            self.assertIs(type(how_many_told(web, told[:12])), int)
            self.assertEqual(how_many_told(web, told[:12]), counted(web, told[:12]))
            self.assertIs(type(quarrels(web, told[:12])), tuple)
            self.assert_invalid(12, web, told[:13])
            self.assert_invalid(12, web, told)
            self.assert_invalid(12, web, (*told[:12], told[0]))
            self.assert_invalid(12, web, (*told[:12], None))
            self.assert_invalid(11, web, (*told[:11], told[0], told[12]))
            self.assert_invalid(11, web, (*told[:11], None, told[12]))

    def test_unknown_names(self):
        web = Web(WIDE)
        told = (("b", "e", True),)
        for value in (*ODD, *ODD_TUPLES, *NO_NAMES, "x", ("a", "b"), web):
            self.assert_gives(UnknownName, value, judge_told, web, told, value, "b")
            self.assert_gives(UnknownName, value, judge_told, web, told, value, None)
            self.assert_gives(UnknownName, value, judge_told, web, told, "a", value)
            self.assert_gives(UnknownName, value, judge_told, copy=value, source="a", told=(), web=web)
        for source, copy in (("a", "d"), ("b", "a"), ("d", "e"), ("a", "a"), ("b", "f")):
            self.assert_gives(UnknownName, copy, judge_told, web, told, source, copy)

    def test_the_order_of_the_errors(self):
        web = Web(WIDE)
        self.assert_gives(NotAWeb, 0, judge_told, 0, 1, 2, 3)
        self.assert_index(InvalidTold, None, judge_told, web, 1, 2, 3)
        self.assert_gives(UnknownName, 2, judge_told, web, (), 2, 3)
        self.assert_gives(UnknownName, 3, judge_told, web, (), "a", 3)

    def test_what_is_passed_stays(self):
        web = Web(LONG)
        passed = [("x", "i", True), ["u", "j", True]]
        self.assert_invalid(None, web, passed)
        self.assert_invalid(1, web, tuple(passed))
        self.assertEqual(passed, [("x", "i", True), ["u", "j", True]])
        told = (("x", "i", True), ("v", "j", True))
        first = [call(web, told) for call in self.calls()]
        self.assertEqual(first, [call(web, told) for call in self.calls()])
        self.assertEqual((web.text, web.names, web.lines), (LONG, Web(LONG).names, Web(LONG).lines))


if __name__ == "__main__":
    unittest.main()
