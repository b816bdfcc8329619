import itertools
import unittest

from basetrees.asking import asked, best_question, enough
from basetrees.choices import choice_at, how_many
from basetrees.errors import InvalidOffers, InvalidTold, NoChoice
from basetrees.limits import MOST_OFFERS
from basetrees.told import how_many_told
from basetrees.webs import Web
from cases import Case
from plain import counted, fits, kept_lines, least_questions, plain_choices, plain_verdict
from samples import (EVEN, LONG, MORE, RING, SHORT, TWO_THOUSAND, WIDE, chain, drawn_told, drawn_with_choices, grown,
                     long_row, single_file, stacked_rings, texts_to_walk)

GREAT = (chain(40, (2,)), chain(40, (1,)), stacked_rings(39), single_file(40), long_row("ring"), long_row("wide"),
         long_row("even"), TWO_THOUSAND, MORE, *[drawn_with_choices(seed, 36) for seed in range(6)])
WITHOUT = (SHORT, RING + "; f d e", "a; b a; c a; d b c; e d", long_row("short"))


class DocumentTest(unittest.TestCase):
    def test_the_example(self):
        ring, wide, even = (
            Web("a; b a; c a; d b c; e b c"), Web("a; b a; c a; d b; e b c; f c"), Web("a; b a; c b; d b c"))
        long = Web("a; x a; y a; u y; v y; h x; i x u; j u v; k v")
        self.assertEqual(
            [best_question(long, (), (("a", "x"), ("x", "i"), ("u", "j"))), enough(long), enough(ring), enough(even),
             asked(long, (("u", "j", True),)), asked(wide, (("c", "e", True),))],
            [1, 2, 1, 0, (('x', 'i'), ('u', 'i')), ()])


class PlainWalkTest(Case):
    """The functions against a walk over all tuples of sources."""

    def assert_as_walked(self, web, choices, told):
        fitting = [chosen for chosen in choices if fits(web, chosen, told)]
        offers = [web.lines[at:at + 8] for at in range(0, len(web.lines), 5)] + [web.lines[:-9:-1], web.lines[::3][:8]]
        if not fitting:
            self.assert_error(NoChoice(), asked, web, told)
            self.assert_error(NoChoice(), best_question, web, told, offers[0])
            return
        place = (web.text, told)
        lines = [line for line in web.lines if plain_verdict(web, fitting, line) == "open"]
        self.assertEqual(asked(web, told), tuple(lines), place)
        for row in offers:
            left = [self.most_left(web, fitting, line) for line in row]
            self.assertEqual(best_question(web, told, row), left.index(min(left)), (place, row))

    def most_left(self, web, choices, line):
        many = sum(1 for chosen in choices if line in kept_lines(web, chosen))
        return max(many, len(choices) - many)

    def test_webs_of_all_kinds(self):
        for seed, text in enumerate(texts_to_walk()):
            web = Web(text)
            if len(web.lines) == 0:
                continue
            choices = plain_choices(web)
            self.assert_as_walked(web, choices, ())
            for many in (1, 2, 4):
                self.assert_as_walked(web, choices, drawn_told(seed, web, many))

    def test_all_told_lines_of_some_webs(self):
        for text in (WIDE, RING, EVEN, LONG):
            web = Web(text)
            choices = plain_choices(web)
            for line, other in itertools.permutations(web.lines, 2):
                for words in itertools.product((True, False), repeat=2):
                    self.assert_as_walked(web, choices, ((*line, words[0]), (*other, words[1])))


class EnoughTest(Case):
    def test_least_of_all_rows_of_questions(self):
        for text in [*texts_to_walk()[::4], RING, WIDE, EVEN, LONG]:
            web = Web(text)
            choices = plain_choices(web)
            if not choices:
                self.assert_error(NoChoice(), enough, web)
            elif len(choices) < 25:
                self.assertEqual(enough(web), least_questions(web, choices), text)

    def test_wide_zigzags_of_each_length(self):
        for size in range(1, 14):
            web = Web(grown((1,) * (size - 1) + (size,), 0))
            self.assertEqual(how_many(web), size)
            self.assertEqual(enough(web), min(k for k in range(9) if 2 ** k >= size))

    def test_great_webs(self):
        self.assertEqual(enough(Web(chain(40, (2,)))), 6)
        self.assertEqual(enough(Web(chain(34, (2,)))), 5)
        self.assertEqual(how_many(Web(chain(34, (2,)))), 32)
        self.assertEqual(enough(Web(chain(35, (2,)))), 6)
        self.assertEqual(enough(Web(stacked_rings(39))), 18)
        self.assertEqual(enough(Web(TWO_THOUSAND)), 3 * 3 + 2 * 2)
        self.assertEqual(enough(Web(MORE)), 3 * 3 + 2 + 1)
        self.assertEqual((enough(Web(single_file(40))), enough(Web(long_row("ring")))), (0, 1))

    def test_all_lines_can_be_asked_for(self):
        """Best questions among the open lines tell any choice, with as many of them as are enough."""
        for text in (RING, WIDE, LONG, chain(9, (2,)), stacked_rings(9)):
            web = Web(text)
            for number in range(how_many(web)):
                self.assertLessEqual(self.questions_for(web, choice_at(web, number)), enough(web))

    def questions_for(self, web, chosen):
        told = ()
        while how_many_told(web, told) > 1:
            lines = asked(web, told)[:MOST_OFFERS]
            line = lines[best_question(web, told, lines)]
            told = (*told, (*line, line in kept_lines(web, chosen)))
        return len(told)


class GreatWebsTest(Case):
    def test_questions(self):
        for seed, text in enumerate(GREAT):
            web = Web(text)
            for told in ((), drawn_told(seed, web, 2), drawn_told(seed + 1, web, 4)):
                many = counted(web, told)
                lines = web.lines[seed::7][:8]
                keeping = [counted(web, (*told, (*line, True))) if self.is_new(line, told) else None for line in lines]
                if many and None not in keeping:
                    left = [max(number, many - number) for number in keeping]
                    self.assertEqual(best_question(web, told, lines), left.index(min(left)), (text, told))
                elif not many:
                    self.assert_error(NoChoice(), best_question, web, told, lines)

    def is_new(self, line, told):
        return line not in [(source, copy) for source, copy, _ in told]

    def test_asked(self):
        for seed, text in enumerate(GREAT):
            web = Web(text)
            for told in ((), drawn_told(seed, web, 3)):
                if counted(web, told) == 0:
                    self.assert_error(NoChoice(), asked, web, told)
                    continue
                found = asked(web, told)
                self.assertEqual(found, tuple([line for line in web.lines if line in found]))
                for line in [line for line in web.lines[seed % 4::4] if self.is_new(line, told)]:
                    is_open = 0 < counted(web, (*told, (*line, True))) < counted(web, told)
                    self.assertEqual(line in found, is_open, (text, told, line))

    def test_all_told_is_nothing_asked(self):
        web = Web(stacked_rings(27))
        told = tuple([(web.sources(copy)[0], copy, True) for copy in web.names[3::2]])
        self.assertEqual(len(told), 12)
        self.assertEqual(asked(web, told), ())
        self.assertEqual(asked(web, told[1:]), web.lines[2:6])

    def test_twelve_told_lines_and_thirteen(self):
        web = Web(stacked_rings(29))
        told = tuple([(web.sources(copy)[0], copy, True) for copy in web.names[3::2]])
        self.assertEqual(len(told), 13)
        offers = (web.lines[2], web.lines[-1])
        self.assertEqual(asked(web, told[:12]), web.lines[-4:])
        self.assertEqual(best_question(web, told[:12], offers), 1)
        self.assert_error(InvalidTold(12), asked, web, told)
        self.assert_error(InvalidTold(12), best_question, web, told, offers)
        self.assert_error(InvalidTold(12), best_question, web, (*told, None), ())


class OffersTest(Case):
    def test_the_first_one_of_equal_ones(self):
        web = Web(RING)
        for offers in itertools.permutations(web.lines, 3):
            opens = [at for at, line in enumerate(offers) if line in web.lines[2:]]
            self.assertEqual(best_question(web, (), offers), opens[0] if opens else 0)
        self.assertEqual(best_question(web, (), (("a", "b"),) * 8), 0)
        self.assertEqual(best_question(web, (), (("a", "b"),) * 7 + (("b", "d"),)), 7)
        self.assertEqual(best_question(web, (), (("a", "b"), ("b", "d"), ("b", "d"), ("c", "e"))), 1)

    def test_eight_offers_and_nine(self):
        web = Web(LONG)
        self.assertEqual(MOST_OFFERS, 8)
        self.assertEqual(best_question(web, (), web.lines[:8]), 5)
        self.assert_error(InvalidOffers(8), best_question, web, (), web.lines[:9])
        self.assert_error(InvalidOffers(8), best_question, web, (), web.lines)
        self.assert_error(InvalidOffers(2), best_question, web, (), web.lines[:2] + (None,) + web.lines)
        self.assert_error(InvalidOffers(None), best_question, web, (), ())

    def test_never_kept_lines_ask_nothing(self):
        web = Web(EVEN)
        self.assertEqual(best_question(web, (), (("b", "d"), ("c", "d"))), 0)
        web = Web(LONG)
        self.assertEqual(best_question(web, (("u", "j", True),), (("v", "j"), ("u", "j"), ("x", "i"))), 2)


class KindsTest(Case):
    def test_kinds_of_values(self):
        for text in ("a", RING, WIDE, EVEN, LONG, *GREAT):
            web = Web(text)
            self.assertIs(type(enough(web)), int)
            self.assert_tuples_of_names(asked(web, ()))
            if web.lines:
                self.assertIs(type(best_question(web, (), web.lines[:3])), int)

    def test_a_web_with_one_copy(self):
        web = Web("a")
        self.assertEqual((enough(web), asked(web, ())), (0, ()))
        self.assert_error(InvalidOffers(None), best_question, web, (), ())
        self.assert_error(InvalidOffers(0), best_question, web, (), (("a", "a"),))

    def test_webs_without_a_choice(self):
        for text in WITHOUT:
            web = Web(text)
            self.assert_error(NoChoice(), enough, web)
            self.assert_error(NoChoice(), asked, web, ())
            self.assert_error(NoChoice(), asked, web, ((*web.lines[0], True),))
            self.assert_error(NoChoice(), best_question, web, (), web.lines[:2])

    def test_told_lines_that_no_choice_fits(self):
        for text, told in ((RING, (("b", "d", True), ("b", "e", True))), (EVEN, (("b", "d", True),)),
                           (WIDE, (("b", "d", False),))):
            web = Web(text)
            self.assert_error(NoChoice(), asked, web, told)
            self.assert_error(NoChoice(), best_question, web, told, web.lines[:2])
            self.assert_error(InvalidOffers(1), best_question, web, told, (web.lines[0], "ab"))


if __name__ == "__main__":
    unittest.main()
