import ast
import itertools
import pathlib
import random
import unittest

from basetrees.certificates import certify_best, certify_count, certify_line, certify_web
from basetrees.checker import accepts
from basetrees.choices import choice_at, how_many
from basetrees.webs import Web
from basetrees.weights import best_sum, prices
from bending import any_values, bent
from cases import Case
from plain import is_true, plain_accepts, plain_choices
from samples import (EVEN, LONG, ODD, ODD_TUPLES, PLAIN, RING, SHORT, TWO_THOUSAND, WIDE, EqualToAll, Touchy, chain,
                     drawn_text, drawn_weights, drawn_with_choices, long_row, single_file, small_texts, stacked_rings)

GREAT = (chain(40, (2,)), chain(40, (1,)), chain(40, (2, 1)), stacked_rings(39), single_file(40), long_row("ring"),
         long_row("wide"), long_row("even"), TWO_THOUSAND, *[drawn_with_choices(seed, 36) for seed in range(4)])
WITHOUT = (SHORT, RING + "; f d e", "a; b a; c a; d b c; e d", long_row("short"),
           *[drawn_text(seed, 30, 90) for seed in range(3)])
WORDS = ("has", "lacks", "sure", "never", "open", "count", "best")


def certified(text, seed):
    """Claims and certificates of each kind that can be made for a web."""
    web = Web(text)
    found = [certify_web(web), certify_count(web)]
    found.extend([certify_line(web, source, copy) for source, copy in web.lines])
    if how_many(web):
        for most in (0, 3, 10 ** 12):
            found.append(certify_best(web, drawn_weights(seed, web, most)))
    return found


def lots(web, most):
    """All tuples of unlike names of a web, in any order, at most so many."""
    return [row for many in range(most + 1) for row in itertools.permutations(web.names, many)]


def rising_lots(web):
    no_ends = [name for name in web.names if name not in web.ends]
    return [row for many in range(len(no_ends) + 1) for row in itertools.combinations(no_ends, many)]


class CheckerCase(Case):
    def assert_as_told(self, claim, certificate):
        """The answer is what the document tells, and what is accepted is true."""
        found = accepts(claim, certificate)
        self.assertIs(type(found), bool)
        self.assertIs(found, plain_accepts(claim, certificate))
        return found


class DocumentTest(unittest.TestCase):
    def test_the_examples(self):
        ring, wide, even = (
            Web("a; b a; c a; d b c; e b c"), Web("a; b a; c a; d b; e b c; f c"), Web("a; b a; c b; d b c"))
        self.assertEqual(
            [accepts(("sure", str(even), "c", "d"), ("c",)), accepts(("sure", str(wide), "b", "d"), ()),
             accepts(("lacks", str(ring)), ("b", "c")),
             accepts(("best", "a; b a", (4,), 4), (("a",), ((4,), (0,))))],
            [True, True, False, True])


class SmallWebsTest(CheckerCase):
    """All lots of names, and all tuples of sources, as certificates."""

    def certificates_for(self, web):
        rows = list(itertools.product(*[web.sources(name) for name in web.names[1:]]))
        return [None, *lots(web, 2), *rising_lots(web), *rows, *itertools.product(rows[:4] + rows[-2:], repeat=2)]

    def test_has_lacks_and_lines(self):
        for text in [*[text for many in range(1, 5) for text in small_texts(many)], *small_texts(5)[::9], *PLAIN]:
            web = Web(text)
            claims = [("has", text), ("lacks", text), *[("count", text, many) for many in range(-1, 5)]]
            claims.extend([(word, text, *line) for word in ("sure", "never", "open") for line in web.lines])
            values = self.certificates_for(web)
            for claim in claims:
                holds = is_true(claim)
                found = [self.assert_as_told(claim, value) for value in values]
                self.assertLessEqual(any(found), holds, claim)

    def test_each_true_claim_has_a_certificate(self):
        for text in [*[text for many in range(1, 5) for text in small_texts(many)], *small_texts(5)[::5], *PLAIN]:
            web = Web(text)
            values = self.certificates_for(web)
            claims = [("has", text), ("lacks", text), ("count", text, len(plain_choices(web)))]
            claims.extend([(word, text, *line) for word in ("sure", "never") for line in web.lines])
            for claim in claims:
                self.assertEqual(any([accepts(claim, value) for value in values]), is_true(claim), claim)

    def test_best(self):
        for seed, text in enumerate([*small_texts(4), *small_texts(5)[::7], *PLAIN]):
            web = Web(text)
            weights = drawn_weights(seed, web, 2)
            choices = plain_choices(web)
            pairs = [prices(web, weights)] if choices else []
            pairs.extend(self.small_prices(web, seed))
            for total in range(-6, 7):
                claim = ("best", text, weights, total)
                for chosen in choices or [("a",) * (len(web.names) - 1)]:
                    for pair in pairs:
                        if self.assert_as_told(claim, (chosen, pair)):
                            self.assertTrue(is_true(claim), claim)

    def small_prices(self, web, seed):
        drawing = random.Random(seed)
        many = len(web.names) - 1, len(web.names) - len(web.ends)
        return [tuple([tuple([drawing.randint(-1, 2) for _ in range(length)]) for length in many]) for _ in range(40)]


class BentTest(CheckerCase):
    """Right claims and certificates, bent in one place."""

    def assert_bent(self, claim, certificate, others):
        self.assertIs(self.assert_as_told(claim, certificate), True)
        for value in bent(claim, others):
            if self.assert_as_told(value, certificate):
                self.assertTrue(is_true(value), (value, certificate))
        for value in bent(certificate, others):
            self.assert_as_told(claim, value)

    def test_small_webs(self):
        for seed, text in enumerate((*PLAIN, "a", "a; b a", *[drawn_text(seed, 6, 85) for seed in range(20)])):
            others = [*WORDS, *Web(text).names, "nobody", "", None, True, False, 0, 1, -1, (), ((),), [], {}, b"a", b"",
                      EqualToAll(), Touchy(), Web(text), RING]
            for claim, certificate in certified(text, seed):
                self.assert_bent(claim, certificate, others)

    def test_two_words(self):
        """A certificate under another word shows what is true, if anything."""
        for seed, text in enumerate((*PLAIN, *[drawn_text(seed, 7, 85) for seed in range(20)])):
            web = Web(text)
            made = certified(text, seed)
            for (claim, _), (_, certificate) in itertools.product(made, made):
                for word in WORDS:
                    other = (word, *claim[1:])
                    if self.assert_as_told(other, certificate):
                        self.assertTrue(is_true(other), (other, certificate))
            self.assertEqual(web.text, text)

    def test_great_webs(self):
        for seed, text in enumerate((*GREAT, *WITHOUT)):
            web = Web(text)
            others = ["sure", "lacks", web.names[0], web.names[-1], None, True, 0, (), EqualToAll()]
            made = certified(text, seed)
            for claim, certificate in [*made[:2], *made[2:-3:17], *made[-2:]]:
                self.assertIs(accepts(claim, certificate), True)
                for value in bent(certificate, others)[seed % 7::7]:
                    self.assert_as_told(claim, value)
                for value in bent(claim[2:], others)[seed % 5::5]:
                    if type(value) is tuple:
                        self.assert_as_told((*claim[:2], *value), certificate)


class LotsTest(CheckerCase):
    def test_lots_in_their_order(self):
        text = "a; b a; c a; d b c"
        self.assertIs(accepts(("lacks", text), ("b", "c")), True)
        for value in (("c", "b"), ("b", "b"), ("b", "c", "c"), ("b", "c", "d"), ("a", "b", "c"), ("b",), ("c",), (),
                      ["b", "c"], ("b", "c", "x"), ("b", ("c",)), (("b", "c"),), "bc", None, ("b", "c", None)):
            self.assertIs(accepts(("lacks", text), value), False)

    def test_greater_lots(self):
        text = "a; b a; c a; d b; e c; f d e"
        self.assertIs(accepts(("lacks", text), ("d", "e")), True)
        self.assertIs(accepts(("lacks", text), ("b", "d", "e")), True)
        self.assertIs(accepts(("lacks", text), ("b", "c", "d", "e")), True)
        self.assertIs(accepts(("lacks", text), ("a", "b", "c", "d", "e")), False)
        self.assertIs(accepts(("lacks", text), ("c", "b", "d", "e")), False)

    def test_a_sure_line_of_a_copy_with_one_source(self):
        self.assertIs(accepts(("sure", "a; b a", "a", "b"), ()), True)
        for value in (("a",), None, [], "", {}, False, 0, ((),)):
            self.assertIs(accepts(("sure", "a; b a", "a", "b"), value), False)

    def test_a_sure_line_of_a_copy_with_two_sources(self):
        self.assertIs(accepts(("sure", EVEN, "c", "d"), ("c",)), True)
        self.assertIs(accepts(("sure", EVEN, "c", "d"), ("a", "c")), True)
        for value in ((), ("b",), ("b", "c"), ("c", "a"), ("d",), ("c", "c"), ["c"], "c", None):
            self.assertIs(accepts(("sure", EVEN, "c", "d"), value), False)
        self.assertIs(accepts(("sure", EVEN, "b", "d"), ("c",)), False)
        self.assertIs(accepts(("open", EVEN, "c", "d"), ("c",)), False)

    def test_a_line_that_is_never_kept(self):
        self.assertIs(accepts(("never", EVEN, "b", "d"), ("c",)), True)
        for value in ((), ("b",), ("b", "c"), ("a",), ("d",), ["c"], "c", None):
            self.assertIs(accepts(("never", EVEN, "b", "d"), value), False)
        # Without its copy d the source c has none left; but it is the source of this line.
        self.assertIs(accepts(("never", EVEN, "c", "d"), ("c",)), False)
        self.assertIs(accepts(("never", EVEN, "a", "b"), ("a",)), False)

    def test_lines_of_webs_without_a_choice(self):
        for word in ("sure", "never"):
            for source, copy in Web(SHORT).lines:
                self.assertIs(accepts((word, SHORT, source, copy), ("b", "c")), True)
                self.assertIs(accepts((word, SHORT, source, copy), ("a", "b", "c")), False)
            self.assertIs(accepts((word, SHORT, "b", "c"), ("b", "c")), False)
            self.assertIs(accepts((word, SHORT, "d", "b"), ("b", "c")), False)


class NumbersTest(CheckerCase):
    def test_counts(self):
        for text in (*PLAIN, *GREAT, *WITHOUT):
            many = how_many(Web(text))
            self.assertIs(accepts(("count", text, many), None), True)
            for value in (many + 1, many - 1, -many - 1, many * 2 + 1, str(many), [many], (many,), None, EqualToAll()):
                self.assertIs(accepts(("count", text, value), None), False)
            for value in ((), [], 0, False, many, EqualToAll(), Touchy(), ("b", "c")):
                self.assertIs(accepts(("count", text, many), value), False)

    def test_true_and_false_are_no_integers(self):
        for word in (True, False):
            self.assertIs(accepts(("count", (SHORT, EVEN)[word], word), None), False)
            self.assertIs(accepts(("best", "a; b a", (word,), int(word)), (("a",), ((int(word),), (0,)))), False)
            self.assertIs(accepts(("best", "a; b a", (int(word),), word), (("a",), ((int(word),), (0,)))), False)
            self.assertIs(accepts(("best", "a; b a", (int(word),), int(word)), (("a",), ((word,), (0,)))), False)
            self.assertIs(accepts(("best", "a; b a", (int(word),), int(word)), (("a",), ((int(word),), (0,)))), True)
        self.assertIs(accepts(("best", "a; b a", (1,), 1), (("a",), ((1,), (False,)))), False)

    def test_prices(self):
        text, weights = WIDE, (1, 1, 1, 5, 3, 1)
        right = (("a", "a", "b", "b", "c"), ((1, 1, 3, 5, 1), (0, 2, 0)))
        self.assertIs(plain_accepts(("best", text, weights, 9), right), accepts(("best", text, weights, 9), right))
        chosen, (of_copies, of_sources) = certify_best(Web(text), weights)[1]
        self.assertIs(accepts(("best", text, weights, 9), (chosen, (of_copies, of_sources))), True)
        for at in range(5):
            for step in (1, -1):
                other = (*of_copies[:at], of_copies[at] + step, *of_copies[at + 1:])
                self.assertIs(accepts(("best", text, weights, 9), (chosen, (other, of_sources))), False)
        more = tuple([number + 1 for number in of_copies]), tuple([number + 1 for number in of_sources])
        self.assertIs(self.assert_as_told(("best", text, weights, 9), (chosen, more)), False)

    def test_prices_below_0(self):
        # A source that is chosen twice would let such a price show too small a sum.
        claim = ("best", "a; b a; c a", (0, 0), 1)
        self.assertIs(accepts(claim, (("a", "a"), ((0, 0), (-1,)))), False)
        self.assertIs(accepts(("best", "a; b a; c a", (0, 0), 0), (("a", "a"), ((0, 0), (0,)))), True)
        self.assertIs(accepts(("best", "a; b a", (0,), 0), (("a",), ((-1,), (-1,)))), False)
        self.assertIs(accepts(("best", "a; b a", (0,), 0), (("a",), ((7,), (7,)))), True)

    def test_a_sum_that_is_not_the_greatest(self):
        for text in (RING, WIDE, LONG, stacked_rings(11)):
            web = Web(text)
            weights = drawn_weights(9, web, 50)
            for number in range(how_many(web)):
                chosen = choice_at(web, number)
                total = sum(weight for line, weight in zip(web.lines, weights) if line in zip(chosen, web.names[1:]))
                claim = ("best", text, weights, total)
                self.assertIs(accepts(claim, (chosen, prices(web, weights))), total == best_sum(web, weights))

    def test_weights_at_the_bound(self):
        for weight in (10 ** 12, -10 ** 12):
            self.assertIs(accepts(("best", "a; b a", (weight,), weight), (("a",), ((weight,), (0,)))), True)
        for weight in (10 ** 12 + 1, -10 ** 12 - 1):
            self.assertIs(accepts(("best", "a; b a", (weight,), weight), (("a",), ((weight,), (0,)))), False)

    def test_one_copy(self):
        self.assertIs(accepts(("best", "a", (), 0), ((), ((), ()))), True)
        self.assertIs(accepts(("best", "a", (), 1), ((), ((), ()))), False)
        self.assertIs(accepts(("best", "a", (), 0), ((), ())), False)
        self.assertIs(accepts(("has", "a"), ()), True)
        self.assertIs(accepts(("lacks", "a"), ()), False)
        self.assertIs(accepts(("count", "a", 1), None), True)
        self.assertIs(accepts(("sure", "a", "a", "a"), ()), False)


class AnyValueTest(CheckerCase):
    def test_odd_values(self):
        values = (*ODD, *ODD_TUPLES, *WORDS, *[(word,) for word in WORDS], Web(EVEN))
        for value in values:
            self.assertIs(accepts(value, None), False)
            self.assertIs(accepts(claim=value, certificate=()), False)
            for word in WORDS:
                for claim in ((word, value), (word, EVEN, value), (word, EVEN, value, "d"), (word, EVEN, "c", value),
                              (word, value, "c", "d"), (word, EVEN, (0,) * 4, value), (word, EVEN, value, 0),
                              (value, EVEN), (value, EVEN, "c", "d"), (word, EVEN, "c", "d", value)):
                    for certificate in (None, (), ("c",), ("a", "b", "c"), value):
                        self.assert_as_told(claim, certificate)

    def test_odd_certificates(self):
        claims = [("has", EVEN), ("lacks", SHORT), ("sure", EVEN, "c", "d"), ("sure", EVEN, "a", "b"),
                  ("never", EVEN, "b", "d"), ("open", RING, "b", "d"), ("count", EVEN, 1),
                  ("best", EVEN, (0,) * 4, 0)]
        for claim in claims:
            for value in (*ODD, *ODD_TUPLES, Web(EVEN)):
                for certificate in (value, (value,), (value, value), ("a", value), (value, ("b", "c")),
                                    (("a", "b", "c"), value), (("a", "b", "c"), (value, value)),
                                    (("a", "b", "c"), ((0, 0, 0), value)),
                                    (("a", "b", "c"), ((0, 0, value), (0, 0, 0))),
                                    (("a", "b", "c"), ((0, 0, 0), (0, value, 0)))):
                    self.assert_as_told(claim, certificate)

    def test_drawn_values(self):
        for seed, text in enumerate((RING, WIDE, EVEN, SHORT, "a; b a")):
            words = (*WORDS, text, *Web(text).names)
            values = any_values(seed, 600, words)
            for at, value in enumerate(values):
                self.assert_as_told(value, values[-at])
                for word in WORDS:
                    self.assert_as_told((word, text, *(value if type(value) is tuple else (value,))), values[at // 2])
                    self.assert_as_told((word, text, *Web(text).lines[-1]), value)

    def test_texts_that_are_none(self):
        for text in ("", "a;", "a; b", "a; b c", "a a", "a; a a", "a; b a a", "A", "a; b a; c a; d a", "a ; b a", 0,
                     None, (), b"a", ["a"], ("a",), single_file(40) + "; z bn", "abcdefghi"):
            for word in WORDS:
                for claim in ((word, text), (word, text, 1), (word, text, "a", "b"), (word, text, (), 0)):
                    for certificate in (None, (), ("a",), ((), ((), ()))):
                        self.assertIs(accepts(claim, certificate), False)

    def test_other_words(self):
        for word in ("", "Has", "has ", "copies", "first", "ring", b"has", ("has",), None, 0, EqualToAll(), Touchy()):
            for rest in ((EVEN,), (EVEN, "c", "d"), (EVEN, 1), (EVEN, (0,) * 4, 0)):
                for certificate in (None, ("a", "b", "c"), ("c",), ()):
                    self.assertIs(accepts((word, *rest), certificate), False)


class ImportsTest(unittest.TestCase):
    def test_it_parts_the_web_by_itself(self):
        found = set()
        waiting = ["checker"]
        while waiting:
            name = waiting.pop()
            if name not in found:
                found.add(name)
                waiting.extend(imported(name))
        self.assertEqual(found & OTHERS, set())


# The other modules that the document lists.
OTHERS = {"webs", "zigzags", "choices", "judging", "gaps", "told", "weights", "asking", "depths", "shelves", "desks",
          "talks", "certificates"}


def imported(name):
    """The modules of the package that a module imports."""
    path = pathlib.Path(__file__).resolve().parent.parent / "basetrees" / f"{name}.py"
    return {node.module.split(".")[1] for node in ast.parse(path.read_text()).body
            if isinstance(node, ast.ImportFrom) and node.module.startswith("basetrees.")}


if __name__ == "__main__":
    unittest.main()
