import unittest

from basetrees.certificates import certify_best, certify_count, certify_line, certify_web
from basetrees.checker import accepts
from basetrees.choices import how_many
from basetrees.errors import InvalidWeights, NoChoice, NotAWeb, UnknownName
from basetrees.judging import judge
from basetrees.webs import Web
from basetrees.weights import best_sum
from cases import Case
from plain import counted, counted_best, plain_accepts, plain_choices, plain_sum, plain_verdict
from samples import (EVEN, LONG, MORE, ODD, ODD_TUPLES, PLAIN, RING, SHORT, TWO_THOUSAND, WIDE, chain, drawn_text,
                     drawn_weights, drawn_with_choices, long_row, single_file, stacked_rings, texts_to_walk)

BOUND = 10 ** 12
GREAT = (chain(40, (2,)), chain(40, (1,)), chain(40, (2, 1)), stacked_rings(39), single_file(40), TWO_THOUSAND, MORE,
         *[long_row(kind) for kind in ("ring", "wide", "even", "short")],
         *[drawn_with_choices(seed, 36) for seed in range(6)], *[drawn_text(seed, 40, 90) for seed in range(12)])


class CertifiedCase(Case):
    def assert_shown(self, made):
        """It is a pair of a claim and what shows it to the checker, and as the document tells it."""
        self.assertEqual((type(made), len(made)), (tuple, 2))
        claim, certificate = made
        self.assertIs(type(claim), tuple)
        self.assertIs(accepts(claim, certificate), True, made)
        self.assertTrue(plain_accepts(claim, certificate), made)

    def assert_certified(self, web, many, verdicts):
        """`many` is the number of choices, and `verdicts` has one for each line."""
        made = certify_web(web)
        self.assert_shown(made)
        self.assertEqual(made[0], ("has" if many else "lacks", web.text))
        made = certify_count(web)
        self.assert_shown(made)
        self.assertEqual(made, (("count", web.text, many), None))
        for line, verdict in zip(web.lines, verdicts):
            made = certify_line(web, *line)
            self.assert_shown(made)
            self.assertEqual(made[0], (verdict, web.text, *line))

    def assert_best(self, web, weights, best):
        made = certify_best(web, weights)
        self.assert_shown(made)
        self.assertEqual(made[0], ("best", web.text, weights, best))


class DocumentTest(unittest.TestCase):
    def test_the_example(self):
        wide, even, short = (
            Web("a; b a; c a; d b; e b c; f c"), Web("a; b a; c b; d b c"), Web("a; b a; c a; d b c"))
        long = Web("a; x a; y a; u y; v y; h x; i x u; j u v; k v")
        self.assertEqual(
            [certify_web(short), certify_web(even), certify_line(even, "b", "d")[0],
             certify_line(wide, "b", "e")[0][0], certify_count(long)[0][2],
             certify_best(wide, (1, 1, 1, 5, 3, 1))[0][3]],
            [(('lacks', 'a; b a; c a; d b c'), ('b', 'c')), (('has', 'a; b a; c b; d b c'), ('a', 'b', 'c')),
             ('never', 'a; b a; c b; d b c', 'b', 'd'), 'open', 3, 9])


class PlainWalkTest(CertifiedCase):
    def test_webs_of_all_kinds(self):
        for seed, text in enumerate(texts_to_walk()):
            web = Web(text)
            choices = plain_choices(web)
            verdicts = [plain_verdict(web, choices, line) if choices else "sure" for line in web.lines]
            self.assert_certified(web, len(choices), verdicts)
            for most in (0, 2, BOUND):
                weights = drawn_weights(seed, web, most)
                if choices:
                    self.assert_best(web, weights, max([plain_sum(web, weights, chosen) for chosen in choices]))
                else:
                    self.assert_error(NoChoice(), certify_best, web, weights)


class GreatWebsTest(CertifiedCase):
    def test_claims_about_webs_and_lines(self):
        for text in GREAT:
            web = Web(text)
            many = counted(web)
            verdicts = [judge(web, *line) if many else "sure" for line in web.lines]
            self.assert_certified(web, many, verdicts)

    def test_all_verdicts_are_met(self):
        made = {certify_line(Web(text), *line)[0][0] for text in GREAT for line in Web(text).lines}
        self.assertEqual(made, {"sure", "never", "open"})
        self.assertEqual({certify_web(Web(text))[0][0] for text in GREAT}, {"has", "lacks"})

    def test_best(self):
        for seed, text in enumerate(GREAT):
            web = Web(text)
            for most in (0, 3, BOUND):
                weights = drawn_weights(seed, web, most)
                if how_many(web):
                    self.assert_best(web, weights, counted_best(web, weights)[0])
                else:
                    self.assert_error(NoChoice(), certify_best, web, weights)

    def test_weights_at_the_bound(self):
        for text in GREAT:
            web = Web(text)
            for at in range(4):
                weights = tuple([BOUND if (place * 7 + at) % 5 % 2 else -BOUND for place in range(len(web.lines))])
                if how_many(web):
                    self.assert_best(web, weights, best_sum(web, weights))

    def test_long_rows_with_sure_and_never_kept_lines(self):
        """At each line of a long even zigzag there are as many names in the lot as lie on one side of it."""
        web = Web(long_row("even"))
        found = [certify_line(web, *line) for line in web.lines]
        long_ones = [certificate for claim, certificate in found if len(certificate) > 20]
        self.assertGreater(len(long_ones), 5)
        self.assertEqual({claim[0] for claim, _ in found}, {"sure", "never"})


class WithoutChoiceTest(CertifiedCase):
    def test_lines_are_sure(self):
        for text in (SHORT, RING + "; f d e", "a; b a; c a; d b c; e d", long_row("short")):
            web = Web(text)
            for line in web.lines:
                made = certify_line(web, *line)
                self.assert_shown(made)
                self.assertEqual(made[0], ("sure", text, *line))
            self.assert_shown(certify_web(web))
            self.assertEqual(certify_web(web)[0], ("lacks", text))
            self.assert_error(NoChoice(), certify_best, web, (0,) * len(web.lines))
            self.assert_error(InvalidWeights(None), certify_best, web, (0,) * (len(web.lines) + 1))
            self.assert_error(UnknownName("nobody"), certify_line, web, "nobody", web.names[-1])


class ArgumentsTest(CertifiedCase):
    def test_one_copy(self):
        web = Web("a")
        self.assertEqual(certify_web(web), (("has", "a"), ()))
        self.assertEqual(certify_count(web), (("count", "a", 1), None))
        self.assertEqual(certify_best(web, ()), (("best", "a", (), 0), ((), ((), ()))))
        self.assert_error(UnknownName("a"), certify_line, web, "a", "a")

    def test_by_name(self):
        for text in (*PLAIN, LONG):
            web = Web(text)
            self.assertEqual(certify_web(web=web), certify_web(web))
            self.assertEqual(certify_count(web=web), certify_count(web))
            for source, copy in web.lines:
                self.assertEqual(certify_line(copy=copy, source=source, web=web), certify_line(web, source, copy))
        weights = (1, 1, 1, 5, 3, 1)
        self.assertEqual(certify_best(weights=weights, web=Web(WIDE)), certify_best(Web(WIDE), weights))

    def test_values_that_are_no_webs(self):
        for value in (*ODD, *ODD_TUPLES, "a", EVEN, (EVEN,)):
            for call in (certify_web, certify_count):
                self.assert_error(NotAWeb(value), call, value)
                self.assert_error(NotAWeb(value), call, web=value)
            self.assert_error(NotAWeb(value), certify_line, value, None, 0)
            self.assert_error(NotAWeb(value), certify_best, value, None)

    def test_the_claim_has_what_was_passed(self):
        web, weights = Web(RING), (0, 1, 2, 3, 4, 5)
        claim, (chosen, shown) = certify_best(web, weights)
        self.assertEqual((claim[1], claim[2], type(claim[3]), len(chosen), len(shown)), (RING, weights, int, 4, 2))
        self.assertEqual((web.text, weights), (RING, (0, 1, 2, 3, 4, 5)))


if __name__ == "__main__":
    unittest.main()
