"""The arguments of all functions over webs: each error for each of them, and which of two errors is told."""

import importlib
import inspect

from basetrees.choices import choice_at, how_many
from basetrees.errors import NoChoice, TooMany
from basetrees.webs import Web
from cases import Case
from samples import EVEN, LONG, RING, SHORT, WIDE, chain, long_row, stacked_rings
from wrong import (wrong_choices, wrong_copies, wrong_names, wrong_offers, wrong_others, wrong_told, wrong_webs,
                   wrong_weights)

NAMES = {
    "zigzags": ("zigzags", "kinds", "zigzag_of", "ways"),
    "choices": ("how_many", "number_of", "kept"),
    "judging": ("judge", "sure_lines", "shares"),
    "gaps": ("gaps", "freeing"),
    "told": ("how_many_told", "first_told", "judge_told", "quarrels", "striking"),
    "weights": ("best_sum", "least_sum", "best_choice", "how_many_best", "sum_of", "worth", "sums", "prices"),
    "asking": ("best_question", "enough", "asked"),
    "depths": ("is_above", "depth", "meeting", "depth_range", "judge_above", "meetings"),
    "certificates": ("certify_web", "certify_line", "certify_count", "certify_best"),
}
CALLS = [getattr(importlib.import_module("basetrees." + place), name) for place in NAMES for name in NAMES[place]]
WITHOUT_CHOICE = ("judge", "sure_lines", "shares", "judge_told", "striking", "best_sum", "least_sum", "best_choice",
                  "how_many_best", "worth", "sums", "prices", "best_question", "enough", "asked", "depth_range",
                  "judge_above", "meetings", "certify_best")
WALKED = ("sums", "depth_range", "judge_above", "meetings")
# All have an end that is the source of no copy, and more than one line.
WITH = (RING, WIDE, EVEN, LONG)
WITHOUT = (SHORT, RING + "; f d e", "a; b a; c a; d b c; e d", long_row("short"))


def parameters_of(call):
    return tuple(inspect.signature(call).parameters)


def right_values(web):
    source, copy = web.lines[-1]
    return {"web": web, "source": source, "copy": copy, "one": web.names[1], "other": web.names[-1], "told": (),
            "weights": tuple([7 * at - 5 for at in range(len(web.lines))]), "offers": web.lines[-3:],
            "choice": choice_at(web, how_many(web) - 1) if how_many(web) else None}


def wrong_values(web, call, name):
    right = right_values(web)
    if name == "copy" and "source" in parameters_of(call):
        return wrong_copies(web, right["source"])
    if name == "other":
        return wrong_others(web, right["one"])
    makers = {"web": wrong_webs, "source": wrong_names, "copy": wrong_names, "one": wrong_names, "told": wrong_told,
              "choice": wrong_choices, "weights": wrong_weights, "offers": wrong_offers}
    return makers[name](web)


def called(call, values):
    return call(*[values[name] for name in parameters_of(call)])


class ArgumentsTest(Case):
    def asked(self, text, calls):
        web = Web(text)
        right = right_values(web)
        for call in calls:
            yield web, call, {name: right[name] for name in parameters_of(call)}

    def test_by_name(self):
        for text in (*WITH, chain(40, (2,)), stacked_rings(21)):
            for _, call, right in self.asked(text, CALLS):
                backwards = dict([(name, right[name]) for name in list(right)[::-1]])
                self.assertEqual(call(**backwards), called(call, right), call.__name__)

    def test_each_wrong_value(self):
        for text in WITH:
            for web, call, right in self.asked(text, CALLS):
                for name in right:
                    for value, error in wrong_values(web, call, name):
                        values = {**right, name: value}
                        self.assert_error(error, called, call, values)
                        self.assert_error(error, call, **values)

    def test_the_first_of_two_wrong_values_is_told(self):
        for text in WITH[1:3]:
            for web, call, right in self.asked(text, CALLS):
                names = list(right)
                for at, first in enumerate(names):
                    for second in names[at + 1:]:
                        self.assert_first_is_told(web, call, right, first, second)

    def assert_first_is_told(self, web, call, right, first, second):
        seconds = [value for value, _ in wrong_values(web, call, second)]
        for at, (value, error) in enumerate(wrong_values(web, call, first)):
            self.assert_error(error, called, call, {**right, first: value, second: seconds[at * 5 % len(seconds)]})

    def test_no_choice_is_told_last(self):
        for text in WITHOUT:
            for web, call, right in self.asked(text, [call for call in CALLS if "choice" not in parameters_of(call)]):
                if call.__name__ in WITHOUT_CHOICE:
                    self.assert_error(NoChoice(), called, call, right)
                    self.assert_error(NoChoice(), call, **right)
                else:
                    called(call, right)
                for name in right:
                    for value, error in wrong_values(web, call, name)[::3]:
                        self.assert_error(error, called, call, {**right, name: value})

    def test_too_many_is_told_last(self):
        for text in (stacked_rings(25), stacked_rings(39)):
            for web, call, right in self.asked(text, [call for call in CALLS if call.__name__ in WALKED]):
                self.assert_error(TooMany(how_many(web)), called, call, right)
                self.assert_error(TooMany(how_many(web)), call, **right)
                for name in right:
                    for value, error in wrong_values(web, call, name)[::3]:
                        self.assert_error(error, called, call, {**right, name: value})

    def test_no_choice_is_told_ahead_of_too_many(self):
        # Without its one short zigzag it would have 2048 choices.
        web = Web(stacked_rings(25) + "; y ax ay")
        self.assertEqual(how_many(web), 0)
        for call in CALLS:
            if call.__name__ in WALKED:
                self.assert_error(NoChoice(), called, call, right_values(web))

    def test_what_is_passed_stays_as_it_is(self):
        for text in WITH:
            for web, call, right in self.asked(text, CALLS):
                before = repr(right), web.text, web.names, web.lines, web.ends
                first = called(call, right)
                self.assertEqual(before, (repr(right), web.text, web.names, web.lines, web.ends))
                self.assertEqual(called(call, right_values(Web(text))), first)

    def test_asked_by_turns(self):
        """What one function answers does not depend on what was asked before."""
        texts = (*WITH, chain(40, (2,)))
        alone = {(text, call.__name__): called(call, right) for text in texts for _, call, right in
                 self.asked(text, CALLS)}
        for step in (1, 3, 7):
            for at in range(0, len(CALLS) * step, step):
                call = CALLS[at % len(CALLS)]
                for text in texts[::-1]:
                    self.assertEqual(called(call, right_values(Web(text))), alone[text, call.__name__])
