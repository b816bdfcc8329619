import unittest

from basetrees.choices import choice_at, how_many, is_choice
from basetrees.errors import InvalidWeights, NoChoice, TooMany
from basetrees.limits import MOST_WALKED, MOST_WEIGHT
from basetrees.weights import best_choice, best_sum, how_many_best, least_sum, prices, sum_of, sums, worth
from basetrees.webs import Web
from cases import Case
from plain import are_prices, counted_best, kept_lines, plain_choices, plain_sum
from samples import (EVEN, LONG, MORE, RING, SHORT, TWO_THOUSAND, WIDE, chain, drawn_weights, drawn_with_choices,
                     long_row, single_file, stacked_rings, texts_to_walk)

BOUND = 10 ** 12
GREAT = (chain(40, (2,)), chain(40, (1,)), chain(40, (2, 1)), stacked_rings(39), single_file(40), long_row("ring"),
         long_row("wide"), long_row("even"), *[drawn_with_choices(seed, 36) for seed in range(8)])


def weights_for(web, seed):
    """Several weights of a web: of few and of many sums, and at the bound."""
    many = len(web.lines)
    return ((0,) * many, drawn_weights(seed, web, 1), drawn_weights(seed, web, 3), drawn_weights(seed, web, BOUND),
            tuple([(BOUND, -BOUND)[(at + seed) % 3 % 2] for at in range(many)]))


class DocumentTest(unittest.TestCase):
    def test_the_examples(self):
        ring, wide, even = (
            Web("a; b a; c a; d b c; e b c"), Web("a; b a; c a; d b; e b c; f c"), Web("a; b a; c b; d b c"))
        long = Web("a; x a; y a; u y; v y; h x; i x u; j u v; k v")
        self.assertEqual(
            [best_sum(wide, (1, 1, 1, 5, 3, 1)), least_sum(wide, (1, 1, 1, 5, 3, 1)),
             best_choice(wide, (1, 1, 1, 5, 3, 1)), how_many_best(ring, (0,) * 6),
             worth(wide, (1, 1, 1, 5, 3, 1), "b", "e"), worth(wide, (0,) * 6, "b", "d")],
            [9, 7, ('a', 'a', 'b', 'b', 'c'), 2, 2, None])
        self.assertEqual(
            [sums(long, (0, 0, 0, 0, 0, 4, 1, 0, 2, 0)), sum_of(even, (1, 2, 4, 8), ("a", "b", "c")),
             len(prices(wide, (1, 1, 1, 5, 3, 1))[1])],
            [(1, 3, 4), 11, 3])


class PlainWalkTest(Case):
    """All functions against a walk over all tuples of sources."""

    def assert_as_walked(self, web, choices, weights):
        place = (web.text, weights)
        totals = [plain_sum(web, weights, chosen) for chosen in choices]
        best = max(totals)
        self.assertEqual(best_sum(web, weights), best, place)
        self.assertEqual(least_sum(web, weights), min(totals), place)
        self.assertEqual(best_choice(web, weights), choices[totals.index(best)], place)
        self.assertEqual(how_many_best(web, weights), totals.count(best), place)
        self.assertEqual(sums(web, weights), tuple(sorted(set(totals))), place)
        self.assertTrue(are_prices(web, weights, best, prices(web, weights)), place)
        for chosen, total in list(zip(choices, totals))[::5]:
            self.assertEqual(sum_of(web, weights, chosen), total, place)
        for line in web.lines:
            self.assertEqual(worth(web, weights, *line), self.plain_worth(web, choices, totals, line), place)

    def plain_worth(self, web, choices, totals, line):
        keeping = [total for chosen, total in zip(choices, totals) if line in kept_lines(web, chosen)]
        others = [total for chosen, total in zip(choices, totals) if line not in kept_lines(web, chosen)]
        return max(keeping) - max(others) if keeping and others else None

    def test_webs_of_all_kinds(self):
        for seed, text in enumerate(texts_to_walk()):
            web = Web(text)
            choices = plain_choices(web)
            if choices:
                several = weights_for(web, seed)
                for weights in several if len(web.names) > 5 else several[seed % 5::3]:
                    self.assert_as_walked(web, choices, weights)

    def test_each_line_alone(self):
        for text in (RING, WIDE, EVEN, LONG, drawn_with_choices(4, 11, 85)):
            web = Web(text)
            choices = plain_choices(web)
            for at in range(len(web.lines)):
                for weight in (1, -1, BOUND, -BOUND):
                    weights = (0,) * at + (weight,) + (0,) * (len(web.lines) - at - 1)
                    self.assert_as_walked(web, choices, weights)


class GreatWebsTest(Case):
    def test_best_ones(self):
        for seed, text in enumerate(GREAT):
            web = Web(text)
            for weights in weights_for(web, seed):
                best, many = counted_best(web, weights)
                place = (text, weights)
                self.assertEqual(best_sum(web, weights), best, place)
                self.assertEqual(how_many_best(web, weights), many, place)
                self.assertEqual(least_sum(web, weights), -best_sum(web, tuple([-weight for weight in weights])), place)
                chosen = best_choice(web, weights)
                self.assertTrue(is_choice(web, chosen), place)
                self.assertEqual(sum_of(web, weights, chosen), best, place)
                self.assertEqual(plain_sum(web, weights, chosen), best, place)
                self.assertTrue(are_prices(web, weights, best, prices(web, weights)), place)

    def test_the_first_best_one(self):
        for seed, text in enumerate(GREAT):
            web = Web(text)
            for weights in weights_for(web, seed)[:3]:
                best, _ = counted_best(web, weights)
                told = ()
                for copy, source in zip(web.names[1:], best_choice(web, weights)):
                    first = web.sources(copy)[0]
                    found = counted_best(web, weights, (*told, (first, copy, True)))
                    self.assertEqual(source == first, found is not None and found[0] == best, (text, weights))
                    told = (*told, (source, copy, True))

    def test_worth(self):
        for seed, text in enumerate(GREAT):
            web = Web(text)
            for weights in weights_for(web, seed)[2:4]:
                for line in web.lines[seed % 5::5]:
                    keeping = counted_best(web, weights, ((*line, True),))
                    others = counted_best(web, weights, ((*line, False),))
                    expected = keeping[0] - others[0] if keeping and others else None
                    self.assertEqual(worth(web, weights, *line), expected, (text, weights))

    def test_sums(self):
        for seed, text in enumerate(GREAT):
            web = Web(text)
            if how_many(web) > 500:
                continue
            choices = [choice_at(web, number) for number in range(how_many(web))]
            for weights in weights_for(web, seed):
                found = tuple(sorted({plain_sum(web, weights, chosen) for chosen in choices}))
                self.assertEqual(sums(web, weights), found)


class SumsTest(Case):
    def test_two_thousand_choices_and_more(self):
        web, more = Web(TWO_THOUSAND), Web(MORE)
        self.assertEqual((how_many(web), how_many(more), MOST_WALKED), (2000, 2016, 2000))
        weights = drawn_weights(1, web, BOUND)
        totals = {plain_sum(web, weights, choice_at(web, number)) for number in range(2000)}
        self.assertEqual(sums(web, weights), tuple(sorted(totals)))
        self.assertEqual(sums(web, (0,) * len(web.lines)), (0,))
        for weights in weights_for(more, 1):
            self.assert_error(TooMany(2016), sums, more, weights)

    def test_powers_of_two(self):
        web = Web(stacked_rings(23))
        weights = [0] * len(web.lines)
        for at in range(10):
            weights[2 + 4 * at] = 2 ** at
        self.assertEqual(sums(web, tuple(weights)), tuple(range(1024)))

    def test_many_sums_that_are_the_same(self):
        web = Web(stacked_rings(23))
        weights = (0, 0) + (1, 0, 0, 1) * 10
        self.assertEqual(sums(web, weights), tuple(range(0, 21, 2)))


class OneCopyTest(Case):
    def test_it_has_no_weights(self):
        web = Web("a")
        self.assertEqual((best_sum(web, ()), least_sum(web, ()), best_choice(web, ()), how_many_best(web, ())),
                         (0, 0, (), 1))
        self.assertEqual((sum_of(web, (), ()), sums(web, ()), prices(web, ())), (0, (0,), ((), ())))
        self.assert_error(InvalidWeights(None), best_sum, web, (0,))


class BoundTest(Case):
    def test_weights_at_the_bound_and_one_beyond(self):
        self.assertEqual(MOST_WEIGHT, BOUND)
        web = Web("a; b a")
        self.assertEqual((best_sum(web, (BOUND,)), least_sum(web, (-BOUND,))), (BOUND, -BOUND))
        for weight in (BOUND + 1, -BOUND - 1):
            for call in (best_sum, least_sum, best_choice, how_many_best, sums, prices):
                self.assert_error(InvalidWeights(0), call, web, (weight,))
            self.assert_error(InvalidWeights(0), sum_of, web, (weight,), ("a",))
            self.assert_error(InvalidWeights(0), worth, web, (weight,), "a", "b")

    def test_all_at_the_bound(self):
        for text in GREAT:
            web = Web(text)
            for weight in (BOUND, -BOUND):
                weights = (weight,) * len(web.lines)
                total = weight * (len(web.names) - 1)
                self.assertEqual((best_sum(web, weights), least_sum(web, weights)), (total, total))
                self.assertEqual(how_many_best(web, weights), how_many(web))
                self.assertEqual(best_choice(web, weights), choice_at(web, 0))
                self.assertTrue(are_prices(web, weights, total, prices(web, weights)))


class KindsTest(Case):
    def test_kinds_of_values(self):
        for seed, text in enumerate((RING, WIDE, EVEN, LONG, *GREAT)):
            web = Web(text)
            weights = drawn_weights(seed, web, 5)
            for call in (best_sum, least_sum, how_many_best):
                self.assertIs(type(call(web, weights)), int)
            self.assert_tuples_of_names(best_choice(web, weights))
            self.assertIs(type(sum_of(web, weights, best_choice(web, weights))), int)
            for line in web.lines:
                self.assertIn(type(worth(web, weights, *line)), (int, type(None)))
            for part in prices(web, weights):
                self.assertEqual((type(part), {type(number) for number in part}), (tuple, {int}))

    def test_a_web_without_a_choice(self):
        web = Web(SHORT)
        for call in (best_sum, least_sum, best_choice, how_many_best, sums, prices):
            self.assert_error(NoChoice(), call, web, (0,) * 4)
            self.assert_error(InvalidWeights(3), call, web, (0, 0, 0, True))
        self.assert_error(NoChoice(), worth, web, (0,) * 4, "a", "b")


if __name__ == "__main__":
    unittest.main()
