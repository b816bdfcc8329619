import itertools
import random
import unittest

from basetrees.choices import how_many
from basetrees.errors import InvalidText, NotAShelf, NothingToUndo
from basetrees.judging import judge
from basetrees.shelves import Shelf
from basetrees.talks import answer, talk
from basetrees.webs import Web
from basetrees.zigzags import kinds
from cases import Case
from samples import (EVEN, LONG, NO_NAMES, ODD, ODD_TUPLES, PLAIN, RING, SHORT, WIDE, drawn_text, filled,
                     name_of, single_file, stacked_rings)

NO_LINES = (
    *[name for name in NO_NAMES if name != "a; b"], "a; b", "a", "put", "put b", "put b a a a", "put  b a", "put b  a",
    " put b a", "put b a ", "put b a\n", "Put b a", "PUT b a", "put B a", "put b A", "put b a1", "put b a, c",
    "put b (a)",
    "put abcdefghi a", "put b abcdefghi", "put b a c abcdefghi", "put b;a", "put b; a", "take", "take b c", "take  b",
    "take b ", "take B", "take abcdefghi", "undo b", "undo ", " undo", "web a", "web ", "webs", "ends a", "count 1",
    "count a", "kinds a", "line", "line a", "line a b c", "line a  b", "line A b", "line a b ", "line a, b", "gaps a",
    "gap", "gaps ", "drop a", "none", "done", "no InvalidName", "quit", "help", "text", "names", "has", "sure",
    "judge a b",
    "put\nb a", "put b\na", "web\nweb", "\nweb", "web\n", "put_b a", "put-b a", "undo.", "undo;", "UNDO", "tried",
    "line a b\n",
)


class DocumentTest(unittest.TestCase):
    def test_the_example(self):
        rack = Shelf("a")
        self.assertEqual(
            [answer(rack, "put b a"), answer(rack, "put b a"), answer(rack, "put c a"), answer(rack, "put d b c"),
             answer(rack, "kinds"), answer(rack, "line b d"), answer(rack, "gaps")],
            ['done', 'no InvalidName', 'done', 'done', 'wide short', 'no NoChoice', '1'])
        self.assertEqual(
            talk(rack, "put e c\nweb\ncount\nline b d\nline c d\nput f a\nends\ntake e\nundo"),
            'done\na; b a; c a; d b c; e c\n1\nsure\nnever\nno FullSource\nd e\ndone\ndone')


class QuestionsTest(Case):
    def assert_told(self, shelf):
        web, before = shelf.web, shelf.changes
        expected = [("web", web.text), ("ends", " ".join(web.ends)), ("count", str(how_many(web))),
                    ("kinds", " ".join(kinds(web)) or "none"), ("gaps", str(kinds(web).count("short")))]
        for source, copy in itertools.product([*web.names[-6:], "nobody"], repeat=2):
            if (source, copy) not in web.lines:
                told = "no UnknownName"
            else:
                told = judge(web, source, copy) if how_many(web) else "no NoChoice"
            expected.append((f"line {source} {copy}", told))
        for line, told in expected:
            self.assertEqual(answer(shelf, line), told, (web.text, line))
            self.assertEqual(answer(line=line, shelf=shelf), told)
        text = "\n".join([line for line, _ in expected])
        if len(text) < 4000:
            self.assertEqual(talk(shelf, text), "\n".join([told for _, told in expected]))
            self.assertEqual(talk(text=text, shelf=shelf), "\n".join([told for _, told in expected]))
        self.assertEqual((shelf.web, shelf.changes), (web, before))

    def test_webs_of_all_kinds(self):
        for text in (*PLAIN, "a", "a; b a", single_file(40), stacked_rings(39), SHORT + "; e d; f d; g e f",
                     *[drawn_text(seed, 4 + seed, 80) for seed in range(24)]):
            self.assert_told(filled(text))

    def test_one_copy(self):
        shelf = Shelf("abcdefgh")
        self.assertEqual(talk(shelf, "web\nends\ncount\nkinds\ngaps\nline abcdefgh abcdefgh"),
                         "abcdefgh\nabcdefgh\n1\nnone\n0\nno UnknownName")

    def test_a_line_of_a_web_without_a_choice(self):
        shelf = filled(SHORT)
        self.assertEqual(talk(shelf, "line a b\nline d b\nline a x\nline x b\nline b d"),
                         "no NoChoice\nno UnknownName\nno UnknownName\nno UnknownName\nno NoChoice")

    def test_each_verdict(self):
        self.assertEqual(talk(filled(WIDE), "line b d\nline b e"), "sure\nopen")
        self.assertEqual(talk(filled(EVEN), "line b d\nline c d"), "never\nsure")


class ChangesTest(Case):
    def assert_no(self, shelf, line, word):
        before = shelf.web.text, shelf.changes
        self.assertEqual(answer(shelf, line), f"no {word}")
        self.assertEqual((shelf.web.text, shelf.changes), before)

    def test_changes_that_are_made(self):
        shelf = Shelf("a")
        for line, text, changes in (("put b a", "a; b a", 1), ("put c b a", "a; b a; c b a", 2),
                                    ("take c", "a; b a", 3), ("undo", "a; b a; c b a", 2), ("undo", "a; b a", 1),
                                    ("put undo b", "a; b a; undo b", 2), ("take undo", "a; b a", 3),
                                    ("put put a", "a; b a; put a", 4), ("put abcdefgh put b",
                                                                        "a; b a; put a; abcdefgh put b", 5)):
            self.assertEqual(answer(shelf, line), "done")
            self.assertEqual((shelf.web.text, shelf.changes), (text, changes))

    def test_each_error(self):
        shelf = filled("a; b a; c a; d b c; e b")
        for line, word in (
                ("put a d", "InvalidName"), ("put e d", "InvalidName"), ("put a nobody", "InvalidName"),
                ("put f f", "InvalidSources"), ("put f x", "InvalidSources"), ("put f d d", "InvalidSources"),
                ("put f d x", "InvalidSources"), ("put f x d", "InvalidSources"), ("put f a a", "InvalidSources"),
                ("put f a", "FullSource"), ("put f d a", "FullSource"), ("put f b a", "FullSource"),
                ("take x", "UnknownName"), ("take f", "UnknownName"), ("take a", "InvalidName"),
                ("take b", "InvalidName"), ("take c", "InvalidName")):
            self.assert_no(shelf, line, word)
        self.assert_no(Shelf("a"), "take a", "InvalidName")
        self.assert_no(Shelf("a"), "undo", "NothingToUndo")

    def test_forty_copies(self):
        shelf = filled(single_file(40))
        self.assert_no(shelf, f"put z {name_of(39)}", "TooMany")
        self.assert_no(shelf, f"put z {name_of(39)} {name_of(0)}", "TooMany")
        self.assert_no(shelf, "put z z", "InvalidSources")
        full = filled(stacked_rings(39))
        self.assertEqual(answer(full, "put z bm"), "done")
        self.assert_no(full, "put y ab", "TooMany")
        self.assertEqual(talk(full, "undo\nput y ab"), "done\nno FullSource")

    def test_undo_after_an_error(self):
        shelf = filled("a; b a; c b")
        self.assertEqual(
            talk(shelf, "put b a\nundo\nundo\nundo\nweb"), "no InvalidName\ndone\ndone\nno NothingToUndo\na")
        self.assert_error(NothingToUndo(), shelf.undo)


class TextsTest(Case):
    def test_lines_that_are_none_of_these(self):
        shelf = filled("a; b a")
        before = shelf.web.text, shelf.changes
        for line in NO_LINES:
            self.assert_gives(InvalidText, line, answer, shelf, line)
            self.assert_gives(InvalidText, line, answer, line=line, shelf=shelf)
        self.assertEqual((shelf.web.text, shelf.changes), before)

    def test_all_short_lines(self):
        """Of all lines of up to four words, just those that the document tells are answered."""
        words = ("put", "take", "undo", "web", "ends", "count", "kinds", "line", "gaps", "a")
        right = {"put": (3, 4), "take": (2,), "line": (3,), "a": ()}
        for many in range(1, 5):
            for row in itertools.product(words, repeat=many):
                if row[1:] != ("a",) * (many - 1) and row[0] not in ("put", "line") and many > 2:
                    continue
                shelf = filled("a; b a")
                line = " ".join(row)
                if many in right.get(row[0], (1,)):
                    self.assertIs(type(answer(shelf, line)), str)
                else:
                    self.assert_gives(InvalidText, line, answer, shelf, line)

    def test_values_that_are_no_texts(self):
        shelf = Shelf("a")
        for value in (*ODD, *ODD_TUPLES, shelf, shelf.web, ["web"], ("web",)):
            self.assert_gives(InvalidText, value, answer, shelf, value)
            self.assert_gives(InvalidText, value, talk, shelf, value)
            self.assert_gives(InvalidText, value, talk, text=value, shelf=shelf)

    def test_values_that_are_no_shelves(self):
        for value in (*ODD, *ODD_TUPLES, "a", "a; b a", Web("a"), Shelf("a").web, [Shelf("a")], (Shelf("a"),)):
            for text in ("web", "", "nothing", None, 0, ["web"], "put b a\n"):
                self.assert_gives(NotAShelf, value, answer, value, text)
                self.assert_gives(NotAShelf, value, talk, value, text)
                self.assert_gives(NotAShelf, value, answer, line=text, shelf=value)
                self.assert_gives(NotAShelf, value, talk, text=text, shelf=value)

    def assert_stops(self, text, line, after):
        """The text is answered up to this line; what is on the shelf then."""
        shelf = filled("a; b a")
        error = self.caught(InvalidText, talk, (shelf, text), {})
        self.assertEqual((type(error.given), error.given), (str, line))
        self.assertEqual((shelf.web.text, shelf.changes), after)

    def test_the_first_line_that_is_none(self):
        self.assert_stops("", "", ("a; b a", 1))
        self.assert_stops("\n", "", ("a; b a", 1))
        self.assert_stops("put c b\n", "", ("a; b a; c b", 2))
        self.assert_stops("put c b\n\nput d c", "", ("a; b a; c b", 2))
        self.assert_stops("put c b\nput d c\nPut e d\nput f d", "Put e d", ("a; b a; c b; d c", 3))
        self.assert_stops("undo\nundo\nput z a\nput y a\n web", " web", ("a; z a; y a", 2))
        self.assert_stops("web\r\nweb", "web\r", ("a; b a", 1))
        self.assert_stops("nonsense", "nonsense", ("a; b a", 1))
        self.assert_stops("put c b\nnonsense\nrubbish", "nonsense", ("a; b a; c b", 2))

    def test_each_line_that_is_none(self):
        for line in NO_LINES:
            if "\n" not in line:
                self.assert_stops(f"put c b\n{line}\nput d c", line, ("a; b a; c b", 2))


class DrawnTest(Case):
    """What a shelf answers beside what one like it does."""

    def line_of(self, drawing):
        word = drawing.choice(
            ("put", "put", "put", "put", "take", "undo", "web", "ends", "count", "kinds", "line", "gaps"))
        many = {"put": drawing.choice((2, 3)), "take": 1, "line": 2}.get(word, 0)
        return " ".join([word, *[drawing.choice("abcdefg") for _ in range(many)]])

    def plain_answer(self, shelf, line):
        word, *names = line.split(" ")
        web = shelf.web
        try:
            if word == "put":
                return shelf.put(names[0], tuple(names[1:])) or "done"
            if word == "take":
                return shelf.take(names[0]) or "done"
            if word == "undo":
                return shelf.undo() or "done"
            if word == "line":
                return judge(web, *names)
        except Exception as error:
            return f"no {type(error).__name__}"
        return {"web": str(web), "ends": " ".join(web.ends), "count": str(how_many(web)),
                "kinds": " ".join(kinds(web)) or "none", "gaps": str(kinds(web).count("short"))}[word]

    def test_drawn_lines(self):
        for seed in range(60):
            drawing = random.Random(seed)
            shelf, other, third = Shelf("a"), Shelf("a"), Shelf("a")
            lines = [self.line_of(drawing) for _ in range(60)]
            expected = [self.plain_answer(other, line) for line in lines]
            self.assertEqual([answer(shelf, line) for line in lines], expected)
            self.assertEqual(talk(third, "\n".join(lines)), "\n".join(expected))
            for one in (shelf, third):
                self.assertEqual((one.web, one.changes), (other.web, other.changes))


class AttemptTest(Case):
    def test_a_talk_in_an_attempt(self):
        shelf = filled(RING)
        with self.assertRaises(InvalidText) as caught:
            shelf.tried(lambda held: talk(held, "take e\nundo\nundo\nput x d\nnothing"))
        self.assertEqual(caught.exception.given, "nothing")
        self.assertEqual((shelf.web.text, shelf.changes), (RING, 4))
        self.assertEqual(shelf.tried(lambda held: talk(held, "take e\nundo\nundo\nput x d")), "done\ndone\ndone\ndone")
        self.assertEqual((shelf.web.text, shelf.changes), ("a; b a; c a; d b c; x d", 4))
        self.assertEqual(filled(LONG).tried(lambda held: answer(held, "count")), "3")


if __name__ == "__main__":
    unittest.main()
