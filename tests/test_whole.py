"""The modules together: what one of them tells is what the others tell."""

import itertools
import unittest

from basetrees.asking import asked, best_question, enough
from basetrees.certificates import certify_best, certify_count, certify_line, certify_web
from basetrees.checker import accepts
from basetrees.choices import choice_at, how_many, is_choice, kept, number_of
from basetrees.depths import depth, depth_range, judge_above
from basetrees.desks import Desk
from basetrees.errors import Broken
from basetrees.gaps import freeing, gaps, how_many_freed
from basetrees.judging import judge, shares, sure_lines
from basetrees.talks import talk
from basetrees.told import first_told, how_many_told, judge_told
from basetrees.webs import Web
from basetrees.weights import best_choice, best_sum, sums
from basetrees.zigzags import kinds, ways, zigzags
from cases import Case
from samples import (PLAIN, TWO_THOUSAND, chain, drawn_text, drawn_weights, drawn_with_choices, filled, long_row,
                     single_file, stacked_rings)

WITH = (*PLAIN[:3], PLAIN[4], "a", "a; b a", chain(40, (2,)), chain(40, (1,)), stacked_rings(39), single_file(40),
        long_row("ring"), long_row("wide"), long_row("even"), TWO_THOUSAND,
        *[drawn_with_choices(seed, 12 + seed) for seed in range(12)])
WITHOUT = (PLAIN[3], long_row("short"), *[drawn_text(seed, 20 + seed, 90) for seed in range(4)])


def everything(text):
    """What all functions tell of a web."""
    web = Web(text)
    many = how_many(web)
    weights = drawn_weights(3, web, 9)
    found = [zigzags(web), kinds(web), ways(web), many, gaps(web), freeing(web), certify_web(web), certify_count(web)]
    found.append([certify_line(web, *line) for line in web.lines])
    if many:
        found.extend([choice_at(web, many - 1), sure_lines(web), shares(web), enough(web), asked(web, ())])
        found.extend([best_choice(web, weights), certify_best(web, weights), first_told(web, ())])
        if many <= 2000:
            found.extend([sums(web, weights), [depth_range(web, name) for name in web.names]])
    return found


class TogetherTest(Case):
    def test_webs_with_choices(self):
        for text in WITH:
            web = Web(text)
            many = how_many(web)
            self.assertEqual((gaps(web), freeing(web), how_many_freed(web, ())), (0, (), many))
            for number in (0, many // 2, many - 1):
                chosen = choice_at(web, number)
                self.assertEqual(number_of(web, chosen), number)
                self.assertTrue(is_choice(web, chosen))
                self.assertTrue(set(sure_lines(web)) <= set(kept(web, chosen)))
                for line in kept(web, chosen):
                    self.assertNotEqual(judge(web, *line), "never")
                    self.assertEqual(depth(web, chosen, line[1]), depth(web, chosen, line[0]) + 1)

    def test_lines(self):
        for text in WITH:
            web = Web(text)
            for line, (top, bottom) in zip(web.lines, shares(web)):
                verdict = judge(web, *line)
                self.assertEqual(how_many_told(web, ((*line, True),)) * bottom, how_many(web) * top)
                self.assertEqual(judge_told(web, (), *line), verdict)
                self.assertEqual(line in asked(web, ()), verdict == "open")
                self.assertEqual(line in sure_lines(web), verdict == "sure")
                self.assertEqual(certify_line(web, *line)[0][0], verdict)
                if verdict == "sure" and how_many(web) <= 2000:
                    self.assertEqual(judge_above(web, *line), "sure")

    def test_desks_take_what_is_certified(self):
        for text in (*WITH, *WITHOUT):
            web, desk = Web(text), Desk()
            desk.put("l", web)
            desk.claim(("copies", "l", len(web.names)))
            (word, _, many), _ = certify_count(web)
            desk.claim((word, "l", many))
            if certify_web(web)[0][0] == "has":
                desk.claim(("has", "l"))
            else:
                self.assert_error(Broken(2, False), desk.claim, ("has", "l"))
            for line in web.lines:
                (verdict, *_), certificate = certify_line(web, *line)
                self.assertTrue(accepts((verdict, text, *line), certificate))
                for word in ("sure", "never"):
                    if word == verdict or many == 0:
                        desk.claim((word, "l", *line))
                    else:
                        self.assert_error(Broken(len(desk.claims), verdict), desk.claim, (word, "l", *line))
            desk.put("l", Web(text))
            self.assertEqual(desk["l"], web)

    def test_shelves_tell_what_the_functions_tell(self):
        for text in (*WITH, *WITHOUT):
            web = Web(text)
            shelf = filled(text)
            self.assertEqual(shelf.web, web)
            self.assertEqual(everything(shelf.web.text), everything(text))
            told = talk(shelf, "count\nkinds\ngaps\nends\nweb").split("\n")
            self.assertEqual(told, [str(how_many(web)), " ".join(kinds(web)) or "none", str(gaps(web)),
                                    " ".join(web.ends), text])

    def test_the_best_question_halves_best(self):
        for text in WITH:
            web = Web(text)
            lines = asked(web, ())[:8]
            if lines:
                best = lines[best_question(web, (), lines)]
                left = [max(how_many_told(web, ((*line, word),)) for word in (True, False)) for line in lines]
                self.assertEqual(left[lines.index(best)], min(left))

    def test_a_best_choice_weighs_the_most(self):
        for seed, text in enumerate(WITH):
            web = Web(text)
            weights = drawn_weights(seed, web, 10 ** 12)
            claim, (chosen, _) = certify_best(web, weights)
            self.assertEqual((claim[3], chosen), (best_sum(web, weights), best_choice(web, weights)))
            if how_many(web) <= 2000:
                self.assertEqual(sums(web, weights)[-1], claim[3])


class AgainTest(unittest.TestCase):
    def test_whatever_was_asked_in_between(self):
        texts = (*WITH, *WITHOUT)
        before = [everything(text) for text in texts]
        for step in (1, 5):
            for at in range(0, len(texts) * step, step):
                self.assertEqual(everything(texts[at % len(texts)]), before[at % len(texts)])

    def test_certificates_of_other_webs(self):
        """What is shown for one web is accepted for another one only if it is true there, too."""
        texts = [*PLAIN, "a; b a", "a; b a; c b", "a; b a; c a; d b; e c; f d e"]
        for text, other in itertools.permutations(texts, 2):
            web, there = Web(text), Web(other)
            for line in web.lines:
                (verdict, *_), certificate = certify_line(web, *line)
                if accepts((verdict, other, *line), certificate) and how_many(there):
                    self.assertEqual(judge(there, *line), verdict)
            (word, _), certificate = certify_web(web)
            if accepts((word, other), certificate):
                self.assertEqual(word == "has", how_many(there) > 0)


if __name__ == "__main__":
    unittest.main()
