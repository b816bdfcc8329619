import random
import unittest

from basetrees.choices import how_many
from basetrees.errors import (FullSource, InvalidName, InvalidSources, NothingToUndo, TooMany, UnknownName, WrongValue)
from basetrees.shelves import Shelf
from basetrees.webs import Web
from cases import Case
from samples import (EqualToAll, LONG, NO_NAMES, ODD, ODD_TUPLES, PLAIN, Touchy, drawn_text, filled, name_of,
                     single_file, stacked_rings)


class Fault(Exception):
    """An error that is none of the package."""


class DocumentTest(Case):
    def test_the_example(self):
        shelf = Shelf("a")
        shelf.put("b", ("a",))
        shelf.put("c", ("a",))
        self.assertEqual(
            [shelf.put("d", ("b", "c")), str(shelf.web), shelf.changes, shelf.take("d"), str(shelf.web), shelf.undo(),
             how_many(shelf.web)],
            [None, 'a; b a; c a; d b c', 3, None, 'a; b a; c a', None, 0])
        self.assert_gives(InvalidName, "b", shelf.take, "b")


class NewTest(Case):
    def test_one_copy(self):
        for name in ("a", "zz", "abcdefgh"):
            shelf = Shelf(name)
            self.assertEqual((shelf.web, shelf.changes), (Web(name), 0))
            self.assertEqual(Shelf(name=name).web.text, name)

    def test_values_that_are_no_names(self):
        for value in (*ODD, *ODD_TUPLES, *NO_NAMES, Web("a"), Shelf("a"), "a; b a"):
            self.assert_gives(InvalidName, value, Shelf, value)
            self.assert_gives(InvalidName, value, Shelf, name=value)

    def test_kinds(self):
        shelf = filled(LONG)
        self.assertEqual((type(shelf.web), type(shelf.changes)), (Web, int))
        self.assertIs(shelf.put("z", ("h",)), None)
        self.assertIs(shelf.take("z"), None)
        self.assertIs(shelf.undo(), None)

    def test_what_can_not_be_assigned(self):
        for word in ("web", "changes"):
            with self.assertRaises(AttributeError):
                setattr(Shelf("a"), word, 0)


class ChangesTest(Case):
    def test_webs_of_all_kinds(self):
        for text in (*PLAIN, *[drawn_text(seed, 5 + seed) for seed in range(20)], single_file(40), stacked_rings(39)):
            shelf = filled(text)
            web = Web(text)
            self.assertEqual((shelf.web.text, shelf.changes), (text, len(web.names) - 1))
            while shelf.changes:
                shelf.undo()
                web = web.without(web.names[-1])
                self.assertEqual((shelf.web.text, shelf.changes), (web.text, len(web.names) - 1))
            self.assert_nothing_to_undo(shelf)

    def assert_nothing_to_undo(self, shelf):
        before = shelf.web.text
        for _ in range(2):
            self.assert_error(NothingToUndo(), shelf.undo)
            self.assertEqual((shelf.web.text, shelf.changes), (before, 0))

    def test_nothing_to_undo(self):
        self.assert_nothing_to_undo(Shelf("a"))

    def test_undo_is_no_change(self):
        shelf = filled("a; b a; c b")
        shelf.undo()
        self.assertEqual((shelf.web.text, shelf.changes), ("a; b a", 1))
        shelf.undo()
        self.assertEqual((shelf.web.text, shelf.changes), ("a", 0))
        shelf.put("z", ("a",))
        shelf.undo()
        self.assert_nothing_to_undo(shelf)

    def test_take_can_be_taken_back(self):
        shelf = filled("a; b a; c a; d b c; e b")
        shelf.take("d")
        shelf.take("c")
        self.assertEqual((shelf.web.text, shelf.changes), ("a; b a; e b", 6))
        shelf.undo()
        self.assertEqual((shelf.web.text, shelf.changes), ("a; b a; c a; e b", 5))
        shelf.undo()
        self.assertEqual((shelf.web.text, shelf.changes), ("a; b a; c a; d b c; e b", 4))

    def test_by_name(self):
        shelf = Shelf(name="a")
        shelf.put(sources=("a",), name="b")
        shelf.put(name="c", sources=("a", "b"))
        shelf.take(copy="c")
        self.assertEqual((shelf.web.text, shelf.changes), ("a; b a", 3))

    def test_webs_that_were_asked_for_stay_as_they_are(self):
        shelf = filled("a; b a")
        web = shelf.web
        shelf.put("c", ("b",))
        shelf.undo()
        shelf.undo()
        self.assertEqual((web, web.text, shelf.web), (Web("a; b a"), "a; b a", Web("a")))


class ErrorsTest(Case):
    def assert_refused(self, shelf, error, call, /, *args, **more):
        before = shelf.web.text, shelf.changes
        self.assert_error(error, call, *args, **more)
        self.assertEqual((shelf.web.text, shelf.changes), before)

    def test_put(self):
        shelf = filled("a; b a; c a; d b c; e b")
        for value in (*ODD, *ODD_TUPLES, *NO_NAMES, "a", "e"):
            self.assert_refused(shelf, InvalidName(value), shelf.put, value, ("d",))
            self.assert_refused(shelf, InvalidName(value), shelf.put, sources=None, name=value)
        values = [*ODD, *ODD_TUPLES, "d", "de", ["d"], ["d", "e"], ("d", "d"), ("d", "e", "a"), ("z",), ("d", "f"),
                  ("f",), ("d", EqualToAll()), (Touchy(), "d"), {"d": 1}, ("D",)]
        for value in values:
            self.assert_refused(shelf, InvalidSources(value), shelf.put, "f", value)
            self.assert_refused(shelf, InvalidSources(value), shelf.put, sources=value, name="f")
        self.assert_refused(shelf, FullSource("a"), shelf.put, "f", ("a",))
        self.assert_refused(shelf, FullSource("b"), shelf.put, "f", ("d", "b"))
        self.assert_refused(shelf, FullSource("b"), shelf.put, "f", ("b", "a"))

    def test_take(self):
        shelf = filled("a; b a; c a; d b c; e b")
        for value in (*ODD, *ODD_TUPLES, *NO_NAMES, "f", ("d",)):
            self.assert_refused(shelf, UnknownName(value), shelf.take, value)
            self.assert_refused(shelf, UnknownName(value), shelf.take, copy=value)
        for value in "abc":
            self.assert_refused(shelf, InvalidName(value), shelf.take, value)
        self.assert_refused(Shelf("a"), InvalidName("a"), Shelf("a").take, "a")

    def test_forty_copies(self):
        shelf = filled(single_file(40))
        last = name_of(39)
        self.assert_refused(shelf, TooMany(40), shelf.put, "z", (last,))
        self.assert_refused(shelf, TooMany(40), shelf.put, "z", (last, name_of(0)))
        sources = (last, last)
        self.assert_refused(shelf, InvalidSources(sources), shelf.put, "z", sources)
        shelf.take(last)
        shelf.put("z", (name_of(38),))
        self.assertEqual((len(shelf.web.names), shelf.changes), (40, 41))
        full = filled(stacked_rings(39))
        full.put("z", (name_of(38),))
        self.assert_refused(full, TooMany(40), full.put, "y", (name_of(1),))


class EqualityTest(unittest.TestCase):
    def test_equal_to_itself_alone(self):
        shelf, other = Shelf("a"), Shelf("a")
        self.assertTrue(shelf == shelf)
        self.assertFalse(shelf != shelf)
        for value in (other, *ODD, *ODD_TUPLES, "a", Web("a"), shelf.web, filled(LONG)):
            self.assertIs(shelf == value, False)
            self.assertIs(shelf != value, True)

    def test_attempts_are_new_ones(self):
        shelf = Shelf("a")
        attempt = shelf.attempt()
        self.assertTrue(attempt == attempt)
        for value in (shelf.attempt(), shelf, EqualToAll(), None):
            self.assertIs(attempt == value, False)
            self.assertIs(attempt != value, True)

    def test_true_as_a_condition(self):
        self.assertTrue(Shelf("a"))
        self.assertTrue(Shelf("a").attempt())


class AttemptTest(Case):
    def test_it_gives_the_shelf(self):
        shelf = Shelf("a")
        with shelf.attempt() as held:
            self.assertIs(held, shelf)

    def test_without_an_error_all_stays(self):
        shelf = filled("a; b a")
        with shelf.attempt():
            shelf.put("c", ("b",))
            shelf.put("d", ("c",))
            shelf.take("d")
        self.assertEqual((shelf.web.text, shelf.changes), ("a; b a; c b", 4))
        shelf.undo()
        self.assertEqual((shelf.web.text, shelf.changes), ("a; b a; c b; d c", 3))

    def test_errors_of_any_class(self):
        for kind in (Fault, ValueError, KeyError, ZeroDivisionError, StopIteration, KeyboardInterrupt, SystemExit,
                     GeneratorExit, NothingToUndo, BaseException):
            shelf = filled("a; b a; c b")
            error = kind()
            with self.assertRaises(kind) as caught:
                with shelf.attempt() as held:
                    held.undo()
                    held.undo()
                    held.put("x", ("a",))
                    raise error
            self.assertIs(caught.exception, error)
            self.assertEqual((shelf.web.text, shelf.changes), ("a; b a; c b", 2))
            shelf.undo()
            self.assertEqual((shelf.web.text, shelf.changes), ("a; b a", 1))
            shelf.undo()
            self.assertEqual((shelf.web.text, shelf.changes), ("a", 0))

    def test_an_error_of_the_shelf(self):
        shelf = filled("a; b a")
        with self.assertRaises(InvalidName) as caught:
            with shelf.attempt():
                shelf.put("c", ("b",))
                shelf.put("c", ("b",))
        self.assertEqual(caught.exception.given, "c")
        self.assertEqual((shelf.web.text, shelf.changes), ("a; b a", 1))

    def test_an_error_that_is_caught_in_the_rows(self):
        shelf = filled("a; b a")
        with shelf.attempt():
            shelf.put("c", ("b",))
            self.assert_error(InvalidName("c"), shelf.put, "c", ("b",))
            shelf.put("d", ("b",))
        self.assertEqual((shelf.web.text, shelf.changes), ("a; b a; c b; d b", 3))

    def test_undo_in_the_rows(self):
        shelf = filled("a; b a; c b")
        with shelf.attempt():
            shelf.undo()
            shelf.undo()
            self.assert_error(NothingToUndo(), shelf.undo)
        self.assertEqual((shelf.web.text, shelf.changes), ("a", 0))

    def test_leaving_by_return_and_break(self):
        shelf = Shelf("a")
        for _ in range(3):
            with shelf.attempt():
                shelf.put("b", ("a",))
                break
        self.assertEqual(self.leave(shelf), "left")
        self.assertEqual((shelf.web.text, shelf.changes), ("a; b a; c b", 2))

    def leave(self, shelf):
        with shelf.attempt():
            shelf.put("c", ("b",))
            return "left"

    def test_the_state_is_that_when_the_rows_begin(self):
        shelf = Shelf("a")
        attempt = shelf.attempt()
        shelf.put("b", ("a",))
        with self.assertRaises(Fault):
            with attempt:
                shelf.put("c", ("b",))
                raise Fault
        self.assertEqual((shelf.web.text, shelf.changes), ("a; b a", 1))

    def test_attempts_within_attempts(self):
        shelf = filled("a; b a")
        with self.assertRaises(Fault):
            with shelf.attempt():
                shelf.put("c", ("b",))
                with shelf.attempt():
                    shelf.put("d", ("c",))
                with self.assertRaises(KeyError):
                    with shelf.attempt():
                        shelf.undo()
                        shelf.undo()
                        shelf.undo()
                        raise KeyError
                self.assertEqual((shelf.web.text, shelf.changes), ("a; b a; c b; d c", 3))
                shelf.undo()
                self.assertEqual((shelf.web.text, shelf.changes), ("a; b a; c b", 2))
                raise Fault
        self.assertEqual((shelf.web.text, shelf.changes), ("a; b a", 1))
        shelf.undo()
        self.assertEqual((shelf.web.text, shelf.changes), ("a", 0))

    def test_two_shelves(self):
        shelf, other = Shelf("a"), Shelf("a")
        with self.assertRaises(Fault):
            with shelf.attempt(), other.attempt():
                shelf.put("b", ("a",))
                other.put("c", ("a",))
                raise Fault
        self.assertEqual((shelf.web.text, other.web.text, shelf.changes, other.changes), ("a", "a", 0, 0))
        with other.attempt():
            other.put("c", ("a",))
        self.assertEqual((shelf.web.text, other.web.text), ("a", "a; c a"))


class TriedTest(Case):
    def test_what_the_function_returns(self):
        for value in (None, 0, "x", [1], Fault):
            shelf = Shelf("a")
            self.assertIs(shelf.tried(lambda held: held.put("b", ("a",)) or value), value)
            self.assertEqual((shelf.web.text, shelf.changes), ("a; b a", 1))

    def test_it_is_called_with_the_shelf(self):
        shelf = Shelf("a")
        self.assertIs(shelf.tried(act=lambda held: held), shelf)

    def test_an_error(self):
        shelf = filled("a; b a")

        def act(held):
            held.undo()
            held.put("c", ("a",))
            raise Fault

        self.assert_error(Fault(), shelf.tried, act)
        self.assertEqual((shelf.web.text, shelf.changes), ("a; b a", 1))

    def test_tried_within_tried(self):
        shelf = Shelf("a")

        def inner(held):
            held.put("c", ("b",))
            raise Fault

        def outer(held):
            held.put("b", ("a",))
            self.assert_error(Fault(), held.tried, inner)
            return held.web.text

        self.assertEqual(shelf.tried(outer), "a; b a")
        self.assertEqual((shelf.web.text, shelf.changes), ("a; b a", 1))


class DrawnTest(Case):
    """Shelves beside a plain list of all that was on them."""

    def step(self, drawing, shelf, rows):
        word = drawing.choice(("put", "put", "put", "take", "undo", "attempt", "fail"))
        web = rows[-1]
        try:
            if word == "put":
                name = drawing.choice("abcdefghijklmnopqrstuvwxyz")
                sources = tuple(drawing.sample([*web.names, "a"], min(len(web.names), drawing.randint(1, 2))))
                shelf.put(name, sources)
                rows.append(web.with_copy(name, sources))
            elif word == "take":
                name = drawing.choice(web.names)
                shelf.take(name)
                rows.append(web.without(name))
            elif word == "undo":
                shelf.undo()
                rows.pop()
            else:
                self.steps_within(drawing, shelf, rows, word == "fail")
        except (WrongValue, NothingToUndo, FullSource):
            pass

    def steps_within(self, drawing, shelf, rows, fails):
        before = list(rows)
        try:
            with shelf.attempt():
                for _ in range(drawing.randint(0, 6)):
                    self.step(drawing, shelf, rows)
                if fails:
                    raise Fault
        except Fault:
            rows[:] = before

    def test_drawn_steps(self):
        for seed in range(60):
            drawing = random.Random(seed)
            shelf, rows = Shelf("a"), [Web("a")]
            for _ in range(60):
                self.step(drawing, shelf, rows)
                self.assertEqual((shelf.web, shelf.changes), (rows[-1], len(rows) - 1))
            while len(rows) > 1:
                shelf.undo()
                rows.pop()
                self.assertEqual((shelf.web, shelf.changes), (rows[-1], len(rows) - 1))


if __name__ == "__main__":
    unittest.main()
