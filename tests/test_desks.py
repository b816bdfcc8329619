import itertools
import random
import unittest

from basetrees.choices import how_many
from basetrees.desks import Desk
from basetrees.errors import (Broken, InUse, InvalidClaim, InvalidIndex, InvalidName, NoAnswer, NotAWeb,
                              NothingToUndo, UnknownName, WrongValue)
from basetrees.shelves import Shelf
from basetrees.webs import Web
from cases import Case
from plain import plain_choices, plain_verdict
from samples import (EVEN, LONG, NO_NAMES, ODD, ODD_TUPLES, PLAIN, RING, SHORT, WIDE, EqualToAll, Touchy, chain,
                     drawn_text, long_row, single_file, stacked_rings)

NO_CLAIMS = (
    *ODD, *ODD_TUPLES, "has", "sure", ["has", "l"], ("has",), ("has", "l", "l"), ("Has", "l"), ("lacks", "l"),
    ("open", "l", "a", "b"), ("best", "l", 1), ("", "l"), (None, "l"), (("has",), "l"), (["has"], "l"),
    (EqualToAll(), "l"), (Touchy(), "l"), (b"has", "l"), ("sure", "l"), ("sure", "l", "a"),
    ("sure", "l", "a", "b", "c"),
    ("sure", "l", None, "b"), ("sure", "l", "a", None), ("sure", "l", 0, "b"), ("sure", "l", ("a",), "b"),
    ("sure", "l", "a", ["b"]), ("sure", "l", EqualToAll(), "b"), ("sure", "l", "a", Touchy()), ("sure", "l", b"a", "b"),
    ("sure", "l", ("a", "b")), ("never", "l"), ("never", "l", "a"), ("never", "l", "a", 1), ("never", "l", True, "b"),
    ("count", "l"), ("count", "l", None), ("count", "l", True), ("count", "l", False), ("count", "l", "2"),
    ("count", "l", (2,)), ("count", "l", [2]), ("count", "l", 2, 2), ("count", "l", EqualToAll()), ("count", 2),
    ("copies", "l"), ("copies", "l", True), ("copies", "l", "6"), ("copies", "l", Touchy()), ("copies", "l", 6, 6),
    ("copies", 6), ("has", "l", True),
)


def told_of(web, claim):
    """What Broken tells of a claim that fits, or "holds"; from a walk over all tuples of sources."""
    word = claim[0]
    choices = plain_choices(web)
    if word == "has":
        return "holds" if choices else False
    if word in ("count", "copies"):
        many = len(choices) if word == "count" else len(web.names)
        return "holds" if many == claim[2] else many
    if claim[2:] not in web.lines:
        return None
    verdict = plain_verdict(web, choices, claim[2:]) if choices else word
    return "holds" if verdict == word else verdict


def desk_of(text, *claims):
    desk = Desk()
    desk.put("l", Web(text))
    for claim in claims:
        desk.claim(claim)
    return desk


class DeskCase(Case):
    def state(self, desk):
        return desk.names, [desk[name].text for name in desk.names], desk.claims, desk.changes, len(desk)

    def assert_refused(self, desk, error, call, /, *args, **more):
        """The call raises this error, and nothing is changed."""
        before = self.state(desk)
        self.assert_error(error, call, *args, **more)
        self.assertEqual(self.state(desk), before)


class DocumentTest(DeskCase):
    def test_the_example(self):
        wide, even = Web("a; b a; c a; d b; e b c; f c"), Web("a; b a; c b; d b c")
        desk = Desk()
        desk.put("cooks", wide)
        desk.claim(("sure", "cooks", "b", "d"))
        desk.claim(("count", "cooks", 2))
        self.assertEqual(
            [desk.names, len(desk.claims), "bakers" in desk, desk.changes], [('cooks',), 2, False, 3])
        self.assert_refused(desk, Broken(index=0, told='never'), desk.put, "cooks", even)


class NewTest(DeskCase):
    def test_it_is_empty(self):
        desk = Desk()
        self.assertEqual((desk.names, desk.claims, desk.changes, len(desk)), ((), (), 0, 0))
        self.assert_refused(desk, NothingToUndo(), desk.undo)

    def test_kinds(self):
        desk = Desk()
        self.assertIs(desk.put("l", Web(WIDE)), None)
        self.assertIs(desk.claim(("has", "l")), None)
        self.assertEqual([type(value) for value in (desk.names, desk.claims, desk.changes, desk["l"], "l" in desk)],
                         [tuple, tuple, int, Web, bool])
        self.assertIs(desk.lift(0), None)
        self.assertIs(desk.undo(), None)
        self.assertIs(desk.undo(), None)
        self.assertIs(desk.drop("l"), None)

    def test_what_can_not_be_assigned(self):
        for word in ("names", "claims", "changes"):
            with self.assertRaises(AttributeError):
                setattr(Desk(), word, ())


class WebsTest(DeskCase):
    def test_put_and_drop(self):
        desk = Desk()
        for at, name in enumerate(("m", "b", "abcdefgh", "zz", "a")):
            desk.put(name, Web(f"{name}; x{'abcde'[at]} {name}"))
        self.assertEqual(desk.names, ("a", "abcdefgh", "b", "m", "zz"))
        self.assertEqual((len(desk), desk.changes, desk["b"].text), (5, 5, "b; xb b"))
        desk.put("b", Web(RING))
        self.assertEqual((len(desk), desk.changes, desk["b"]), (5, 6, Web(RING)))
        desk.drop("m")
        self.assertEqual((desk.names, desk.changes), (("a", "abcdefgh", "b", "zz"), 7))
        desk.put("m", Web("m"))
        self.assertEqual(desk.names, ("a", "abcdefgh", "b", "m", "zz"))
        for _ in range(3):
            desk.undo()
        self.assertEqual((desk.names, desk["b"].text, desk.changes), (("a", "abcdefgh", "b", "m", "zz"), "b; xb b", 5))

    def test_the_web_itself(self):
        desk, web = Desk(), Web(LONG)
        desk.put(web=web, name="l")
        self.assertIs(desk["l"], web)
        self.assertEqual(desk["l"], Web(LONG))

    def test_the_same_web_again_is_a_change(self):
        desk, web = Desk(), Web(LONG)
        desk.put("l", web)
        desk.put("l", web)
        self.assertEqual(desk.changes, 2)
        desk.undo()
        self.assertEqual((desk.names, desk.changes), (("l",), 1))
        desk.undo()
        self.assertEqual((desk.names, desk.changes), ((), 0))

    def test_wrong_values(self):
        desk = desk_of(WIDE)
        for value in (*ODD, *ODD_TUPLES, *NO_NAMES, Web("l")):
            self.assert_refused(desk, InvalidName(value), desk.put, value, Web("a"))
            self.assert_refused(desk, InvalidName(value), desk.put, web=None, name=value)
            self.assert_refused(desk, InvalidName(value), desk.drop, value)
            self.assert_refused(desk, InvalidName(value), desk.drop, name=value)
            self.assert_refused(desk, InvalidName(value), lambda: desk[value])
        for value in (*ODD, *ODD_TUPLES, "a", WIDE, Shelf("a"), desk):
            self.assert_refused(desk, NotAWeb(value), desk.put, "m", value)
            self.assert_refused(desk, NotAWeb(value), desk.put, web=value, name="l")
        for value in ("m", "ll", "abcdefgh"):
            self.assert_refused(desk, UnknownName(value), desk.drop, value)
            self.assert_refused(desk, UnknownName(value), lambda: desk[value])

    def test_whether_there_is_a_name(self):
        desk = desk_of(WIDE)
        self.assertIs("l" in desk, True)
        for value in (*ODD, *ODD_TUPLES, *NO_NAMES, "m", ("l",), ["l"], Web("l"), desk["l"], desk):
            self.assertIs(value in desk, False)

    def test_in_use(self):
        desk = desk_of(WIDE, ("has", "l"))
        desk.put("m", Web(RING))
        desk.put("n", Web(RING))
        desk.claim(("count", "m", 2))
        desk.claim(("copies", "l", 6))
        self.assert_refused(desk, InUse(0), desk.drop, "l")
        self.assert_refused(desk, InUse(1), desk.drop, "m")
        desk.lift(0)
        self.assert_refused(desk, InUse(1), desk.drop, "l")
        self.assert_refused(desk, InUse(0), desk.drop, "m")
        desk.drop("n")
        desk.lift(1)
        desk.drop("l")
        self.assertEqual((desk.names, desk.claims), (("m",), (("count", "m", 2),)))
        desk.undo()
        self.assertEqual((desk.names, desk.claims), (("l", "m"), (("count", "m", 2),)))


class ClaimsTest(DeskCase):
    def test_their_order(self):
        claims = [("has", "l"), ("sure", "l", "b", "d"), ("count", "l", 2), ("copies", "l", 6), ("has", "l")]
        desk = desk_of(WIDE, *claims)
        self.assertEqual((desk.claims, desk.changes), (tuple(claims), 6))
        desk.lift(1)
        self.assertEqual((desk.claims, desk.changes), (tuple(claims[:1] + claims[2:]), 7))
        desk.lift(index=3)
        self.assertEqual(desk.claims, (claims[0], claims[2], claims[3]))
        desk.undo()
        desk.undo()
        self.assertEqual((desk.claims, desk.changes), (tuple(claims), 6))
        desk.claim(claim=("copies", "l", 6))
        self.assertEqual(desk.claims, (*claims, ("copies", "l", 6)))

    def test_no_claims(self):
        desk = desk_of(WIDE, ("has", "l"))
        for value in NO_CLAIMS:
            self.assert_refused(desk, InvalidClaim(value), desk.claim, value)
            self.assert_refused(desk, InvalidClaim(value), desk.claim, claim=value)

    def test_unknown_names(self):
        desk = desk_of(WIDE, ("has", "l"))
        for value in (*ODD, *ODD_TUPLES, *NO_NAMES, "m", "has", Web("l"), desk):
            for claim in (("has", value), ("sure", value, "a", "b"), ("never", value, "", "no name"),
                          ("count", value, 2), ("copies", value, -1)):
                self.assert_refused(desk, UnknownName(value), desk.claim, claim)

    def test_indexes(self):
        desk = desk_of(WIDE, ("has", "l"), ("has", "l"), ("copies", "l", 6))
        for value in (*[value for value in ODD if type(value) is not int], *ODD_TUPLES, "0", -1, 3, 10 ** 30, (0,)):
            self.assert_refused(desk, InvalidIndex(value), desk.lift, value)
            self.assert_refused(desk, InvalidIndex(value), desk.lift, index=value)
        self.assert_refused(Desk(), InvalidIndex(0), Desk().lift, 0)
        for index in (2, 1, 0):
            desk.lift(index)
        self.assert_refused(desk, InvalidIndex(0), desk.lift, 0)

    def test_one_that_does_not_hold(self):
        desk = desk_of(WIDE, ("has", "l"), ("has", "l"))
        desk.put("m", Web(SHORT))
        for claim, told in ((("has", "m"), False), (("sure", "l", "b", "e"), "open"),
                            (("never", "l", "b", "d"), "sure"), (("never", "l", "c", "e"), "open"),
                            (("count", "l", 3), 2), (("count", "m", 1), 0),
                            (("count", "l", -1), 2), (("copies", "l", 5), 6), (("copies", "m", 6), 4),
                            (("sure", "l", "d", "b"), None), (("never", "l", "a", "a"), None),
                            (("sure", "l", "", "b"), None), (("never", "l", "a", "no name"), None),
                            (("sure", "m", "d", "b"), None), (("copies", "l", 10 ** 40), 6)):
            self.assert_refused(desk, Broken(2, told), desk.claim, claim)

    def test_only_the_new_one_is_looked_at(self):
        desk = desk_of(WIDE)
        desk.put("m", Web(RING))
        desk.claim(("count", "m", 2))
        self.assert_refused(desk, Broken(1, 2), desk.claim, ("count", "l", 5))
        self.assert_refused(desk, Broken(1, "sure"), desk.claim, ("never", "m", "a", "b"))

    def test_without_choices_lines_are_sure_and_never_kept(self):
        desk = desk_of(SHORT)
        for source, copy in Web(SHORT).lines:
            desk.claim(("sure", "l", source, copy))
            desk.claim(("never", "l", source, copy))
        self.assertEqual(len(desk.claims), 8)
        self.assert_refused(desk, Broken(1, "sure"), desk.put, "l", Web(SHORT + "; e b"))
        for index in (7, 4, 3, 1):
            desk.lift(index)
        self.assertEqual(desk.claims, (("sure", "l", "a", "b"), ("sure", "l", "a", "c"), ("never", "l", "b", "d"),
                                       ("sure", "l", "c", "d")))
        desk.put("l", Web(SHORT + "; e b"))
        self.assertEqual(desk.claims[2], ("never", "l", "b", "d"))


class PutTest(DeskCase):
    def test_the_first_one_that_would_not_hold(self):
        claims = [("copies", "l", 6), ("sure", "l", "b", "d"), ("has", "l"), ("count", "l", 2), ("sure", "l", "c", "f")]
        for row in itertools.permutations(claims):
            desk = desk_of(WIDE, *row)
            desk.put("other", Web(SHORT))
            for text in (EVEN, SHORT, RING, LONG, WIDE, "a", "a; b a; c a; d b; e b c", "a; b a; c a; d b; e b; f c"):
                web = Web(text)
                told = [told_of(web, claim) for claim in row]
                broken = [index for index in range(5) if told[index] != "holds"]
                if broken:
                    self.assert_refused(desk, Broken(broken[0], told[broken[0]]), desk.put, "l", web)
                else:
                    desk.put("l", web)
                    self.assertEqual(desk["l"], web)

    def test_indexes_count_all_claims(self):
        desk = Desk()
        desk.put("l", Web(WIDE))
        desk.put("m", Web(RING))
        for claim in (("has", "m"), ("count", "m", 2), ("has", "l"), ("copies", "m", 5), ("copies", "l", 6)):
            desk.claim(claim)
        self.assert_refused(desk, Broken(2, False), desk.put, "l", Web(SHORT))
        self.assert_refused(desk, Broken(4, 9), desk.put, "l", Web(LONG))
        self.assert_refused(desk, Broken(0, False), desk.put, "m", Web(SHORT))
        self.assert_refused(desk, Broken(1, 3), desk.put, "m", Web(LONG))
        desk.put("n", Web(SHORT))
        self.assertEqual(desk.names, ("l", "m", "n"))

    def test_great_webs(self):
        desk = Desk()
        desk.put("l", Web(stacked_rings(39)))
        desk.claim(("count", "l", 2 ** 18))
        desk.claim(("copies", "l", 39))
        self.assert_refused(desk, Broken(0, 38), desk.put, "l", Web(chain(40, (2,))))
        desk.lift(0)
        self.assert_refused(desk, Broken(0, 40), desk.put, "l", Web(single_file(40)))
        desk.lift(0)
        desk.put("l", Web(long_row("short")))
        self.assert_refused(desk, Broken(0, False), desk.claim, ("has", "l"))


class EqualityTest(unittest.TestCase):
    def test_equal_to_itself_alone(self):
        for desk in (Desk(), desk_of(WIDE, ("has", "l"))):
            self.assertTrue(desk == desk)
            self.assertFalse(desk != desk)
            for value in (Desk(), desk_of(WIDE, ("has", "l")), *ODD, *ODD_TUPLES, (), 0, desk.names, Shelf("a")):
                self.assertIs(desk == value, False)
                self.assertIs(desk != value, True)

    def test_true_as_a_condition(self):
        self.assertIs(bool(Desk()), True)
        self.assertIs(bool(desk_of(WIDE)), True)
        self.assertTrue(Desk().attempt())


class Fault(Exception):
    """An error that is none of the package."""


class AttemptTest(DeskCase):
    def test_errors_of_any_class(self):
        for kind in (Fault, KeyError, ZeroDivisionError, StopIteration, KeyboardInterrupt, BaseException):
            desk = desk_of(WIDE, ("has", "l"), ("copies", "l", 6))
            before, error = self.state(desk), kind()
            with self.assertRaises(kind) as caught:
                with desk.attempt() as held:
                    self.assertIs(held, desk)
                    desk.lift(0)
                    desk.undo()
                    desk.undo()
                    desk.undo()
                    desk.drop("l")
                    desk.put("m", Web(RING))
                    raise error
            self.assertIs(caught.exception, error)
            self.assertEqual(self.state(desk), before)
            desk.undo()
            self.assertEqual((desk.claims, desk.changes), ((("has", "l"),), 2))

    def test_an_error_of_the_desk(self):
        desk = desk_of(WIDE, ("has", "l"))
        before = self.state(desk)
        with self.assertRaises(Broken):
            with desk.attempt():
                desk.lift(0)
                desk.put("l", Web(SHORT))
                desk.claim(("has", "l"))
        self.assertEqual(self.state(desk), before)

    def test_without_an_error_all_stays(self):
        desk = desk_of(WIDE, ("has", "l"))
        with desk.attempt() as held:
            held.lift(0)
            held.drop("l")
        self.assertEqual((desk.names, desk.claims, desk.changes), ((), (), 4))
        desk.undo()
        desk.undo()
        self.assertEqual((desk.names, desk.claims, desk.changes), (("l",), (("has", "l"),), 2))

    def test_attempts_within_attempts(self):
        desk = desk_of(WIDE)
        with self.assertRaises(Fault):
            with desk.attempt():
                desk.put("m", Web(RING))
                with self.assertRaises(InUse):
                    with desk.attempt():
                        desk.claim(("has", "m"))
                        desk.drop("m")
                self.assertEqual((desk.names, desk.claims, desk.changes), (("l", "m"), (), 2))
                raise Fault
        self.assertEqual((desk.names, desk.claims, desk.changes), (("l",), (), 1))

    def test_tried(self):
        desk = desk_of(WIDE)
        self.assertIs(desk.tried(lambda held: held), desk)
        self.assertEqual(desk.tried(act=lambda held: held.put("m", Web("a")) or held.names), ("l", "m"))

        def act(held):
            held.undo()
            held.put("n", Web("a"))
            raise Fault

        before = self.state(desk)
        self.assert_error(Fault(), desk.tried, act)
        self.assertEqual(self.state(desk), before)


class DrawnTest(DeskCase):
    """Desks beside plain lists of all that was on them."""

    def setUp(self):
        self.webs = [Web(text) for text in (*PLAIN, "a", "a; b a", *[drawn_text(seed, 5) for seed in range(8)])]

    def drawn_claim(self, drawing, webs):
        name = drawing.choice([*webs, "x"])
        word = drawing.choice(("has", "sure", "never", "count", "copies"))
        web = webs.get(name, self.webs[0])
        if word == "has":
            return word, name
        if word == "count":
            return word, name, how_many(web) + drawing.choice((0, 0, 0, 1))
        if word == "copies":
            return word, name, len(web.names) + drawing.choice((0, 0, 0, -1))
        return word, name, *drawing.choice([*web.lines, ("a", "x"), ("b", "d")])

    def change(self, drawing, desk, now):
        """Draw a change, and make it; what is on the desk then, if no error is raised."""
        webs, claims = now
        word = drawing.choice(("put", "put", "put", "drop", "claim", "claim", "claim", "lift"))
        if word == "put":
            name, web = drawing.choice("lmno"), drawing.choice(self.webs)
            desk.put(name, web)
            return {**webs, name: web}, claims
        if word == "drop":
            name = drawing.choice("lmno")
            desk.drop(name)
            return {other: web for other, web in webs.items() if other != name}, claims
        if word == "claim":
            claim = self.drawn_claim(drawing, webs)
            desk.claim(claim)
            return webs, (*claims, claim)
        index = drawing.randint(0, 6)
        desk.lift(index)
        return webs, claims[:index] + claims[index + 1:]

    def step(self, drawing, desk, rows):
        word = drawing.choice(("change",) * 8 + ("undo", "attempt", "fail"))
        try:
            if word == "change":
                rows.append(self.change(drawing, desk, rows[-1]))
            elif word == "undo":
                desk.undo()
                rows.pop()
            else:
                self.steps_within(drawing, desk, rows, word == "fail")
        except (WrongValue, NoAnswer):
            pass

    def steps_within(self, drawing, desk, rows, fails):
        before = list(rows)
        try:
            with desk.attempt():
                for _ in range(drawing.randint(0, 8)):
                    self.step(drawing, desk, rows)
                if fails:
                    raise Fault
        except Fault:
            rows[:] = before

    def assert_as(self, desk, rows):
        webs, claims = rows[-1]
        self.assertEqual((desk.names, desk.claims, desk.changes), (tuple(sorted(webs)), claims, len(rows) - 1))
        for name, web in webs.items():
            self.assertEqual(desk[name], web)
        for claim in claims:
            self.assertEqual(told_of(webs[claim[1]], claim), "holds")

    def test_drawn_steps(self):
        for seed in range(40):
            drawing = random.Random(seed)
            desk, rows = Desk(), [({}, ())]
            for _ in range(60):
                self.step(drawing, desk, rows)
                self.assert_as(desk, rows)
            while len(rows) > 1:
                desk.undo()
                rows.pop()
                self.assert_as(desk, rows)


class FitsTest(DeskCase):
    def test_all_lines_of_small_webs(self):
        """Each claim over each web against a walk over all tuples of sources."""
        for at, text in enumerate((*PLAIN, *[drawn_text(seed, 6, 85) for seed in range(12)])):
            web = Web(text)
            desk = desk_of(text)
            pairs = list(itertools.permutations([*web.names, "q"], 2))[at % 3::3] + list(web.lines)
            claims = [(word, "l", *pair) for pair in pairs for word in ("sure", "never")]
            claims.extend([("count", "l", many) for many in range(-1, 5)])
            claims.extend([("copies", "l", many) for many in range(10)])
            for claim in [*claims, ("has", "l")]:
                told = told_of(web, claim)
                if told == "holds":
                    desk.claim(claim)
                    desk.undo()
                else:
                    self.assert_refused(desk, Broken(0, told), desk.claim, claim)


if __name__ == "__main__":
    unittest.main()
