import re
import unittest

from basetrees.errors import FullSource, InvalidName, InvalidSources, InvalidText, TooMany, UnknownName
from basetrees.webs import Web
from cases import Case
from samples import (EVEN, EqualToAll, LONG, NO_NAMES, ODD, ODD_TUPLES, PLAIN, RING, SHORT, Touchy, WIDE, chain,
                     name_of, single_file, small_texts, stacked_rings)

FORTY = (single_file(40), chain(40, (2,)), chain(40, (1, 2)), stacked_rings(39) + "; last bl")


class Helper(Case):
    def assert_no_web(self, text):
        self.assert_gives(InvalidText, text, Web, text)
        self.assert_gives(InvalidText, text, Web, text=text)


class DocumentTest(Helper):
    def test_the_example(self):
        ring, wide, even, short = (
            Web("a; b a; c a; d b c; e b c"), Web("a; b a; c a; d b; e b c; f c"), Web("a; b a; c b; d b c"),
            Web("a; b a; c a; d b c"))
        self.assertEqual(
            [wide.names, wide.lines[2:5], wide.ends, wide.sources("e"), wide.copies("b"),
             str(short.with_copy("e", ("c",))), str(wide.without("f")), repr(ring)],
            [('a', 'b', 'c', 'd', 'e', 'f'), (('b', 'd'), ('b', 'e'), ('c', 'e')), ('d', 'e', 'f'), ('b', 'c'),
             ('d', 'e'), 'a; b a; c a; d b c; e c', 'a; b a; c a; d b; e b c', 'Web of 5 copies'])
        self.assertEqual(str(even), "a; b a; c b; d b c")

    def test_the_example_that_fails(self):
        with self.assertRaises(FullSource) as caught:
            Web("a; b a; c a; d b; e b c; f c").with_copy("g", ("a", "d"))
        self.assertEqual(caught.exception.given, 'a')


class TextTest(Helper):
    def test_the_text_is_kept(self):
        for text in (*PLAIN, *FORTY, "a", "abcdefgh", "zz; a zz", "a; b a; c b a", "a; b a; c a b"):
            self.assertEqual(Web(text).text, text)
            self.assertEqual(Web(text=text).text, text)
            self.assertEqual(str(Web(text)), text)

    def test_values_that_are_no_strings(self):
        for value in (*ODD, *ODD_TUPLES, ("a",), ("a", "b"), Web("a")):
            self.assert_no_web(value)

    def test_names(self):
        for name in ("a", "z", "ab", "abcdefgh", "zzzzzzzz", "none", "web"):
            self.assertEqual(Web(name).names, (name,))
            self.assertEqual(Web("q; " + name + " q").names, ("q", name))
        for name in NO_NAMES:
            self.assert_no_web(name)
            self.assert_no_web("q; " + name + " q")
            self.assert_no_web("q; " + name)
            self.assert_no_web("q; r " + name)
            self.assert_no_web("q; r q; s q " + name)
            self.assert_no_web(name + "; q " + name)

    def test_spaces(self):
        for text in ("", " ", " a", "a ", "a; b a ", " a; b a", "a;  b a", "a; b  a", "a ; b a", "a;b a", "a;b  a",
                     "a; ba", "a; b a;c a", "a; b a;  c a", "a; b a; c a  b", "a; b a; c  a b", "a; b a; c ab"):
            self.assert_no_web(text)

    def test_semicolons(self):
        for text in (";", "; ", "a;", "a; ", "; a", ";a", "a; b a;", "a; b a; ", "a;; b a", "a; ; b a", "a b a",
                     "a; b a c a", "a, b a", "a; b; a", "a:  b a", "a; b a; ; c a", "a; b a;; c a"):
            self.assert_no_web(text)

    def test_other_characters(self):
        for text in ("A", "A; b A", "a; B a", "a; b A", "a1", "a; b1 a", "a; b 1", "1; 2 1", "a\n", "\na", "a;\nb a",
                     "a; b a\n", "a; b\na", "a; b a\n; c a", "a\n; b a", "a; b a; c a\n", "a-b", "a; b a!", "\n"):
            self.assert_no_web(text)

    def test_the_first_copy_has_no_source(self):
        for text in ("a a", "a b", "a b; b a", "a b c; b a; c a", "a a; b a"):
            self.assert_no_web(text)

    def test_each_other_copy_has_one_or_two_sources(self):
        self.assertEqual(Web("a; b a; c a b").lines, (("a", "b"), ("a", "c"), ("b", "c")))
        for text in ("a; b", "a; b a; c", "a; b; c a b", "a; b a; c b; d a b c", "a; b a; c b; d c b a; e d"):
            self.assert_no_web(text)

    def test_sources_are_unlike(self):
        for text in ("a; b a a", "a; b a; c b b", "a; b a; c b b; d c", "a; b a; c a a"):
            self.assert_no_web(text)

    def test_sources_come_ahead(self):
        for text in ("a; b b", "a; b c", "a; b c; c a", "a; b c; c b", "a; b a c; c a", "a; b a b", "a; b a; c d; d a",
                     "a; b a; c a d; d b", "a; b x", "a; b a x", "a; b x a"):
            self.assert_no_web(text)

    def test_names_are_unlike(self):
        for text in ("a; a", "a; a a", "a; b a; b a", "a; b a; a b", "a; b a; c b; b c", "a; b a; c a; c b"):
            self.assert_no_web(text)

    def test_a_copy_is_the_source_of_two_at_most(self):
        self.assertEqual(Web("a; b a; c a; d b; e b; f c; g c").copies("b"), ("d", "e"))
        for text in ("a; b a; c a; d a", "a; b a; c a; d b a", "a; b a; c a; d a b", "a; b a; c a b; d a",
                     "a; b a; c b; d b; e b", "a; b a; c b; d b; e c b; f a", "a; b a; c b; d b c; e a; f c b"):
            self.assert_no_web(text)

    def test_forty_copies_and_one_more(self):
        for text in FORTY:
            web = Web(text)
            self.assertEqual(len(web.names), 40)
            self.assertEqual(repr(web), "Web of 40 copies")
            self.assert_no_web(text + "; more " + web.ends[-1])
        for many in (41, 42, 60):
            self.assert_no_web(single_file(many))
        self.assertEqual(repr(Web(single_file(39))), "Web of 39 copies")

    def test_forty_copies_with_long_names(self):
        names = ["abcdef" + name_of(number) for number in range(40)]
        text = "; ".join([names[0], *[f"{names[at]} {names[at - 1]}" for at in range(1, 40)]])
        self.assertEqual(Web(text).names, tuple(names))

    def test_all_short_texts(self):
        """Every text of five characters out of `ab; ` is a web or none as a plain reading of the document says."""
        for number in range(5 ** 5):
            text = "".join([("a", "b", "; ", " ", ";")[number // 5 ** at % 5] for at in range(5)])
            if plainly_a_web(text):
                self.assertEqual(str(Web(text)), text)
            else:
                self.assert_no_web(text)

    def test_all_small_tables(self):
        for many, expected in ((1, 1), (2, 1), (3, 4)):
            self.assertEqual(len(small_texts(many)), expected)
        for many in range(1, 6):
            for text in small_texts(many):
                self.assertEqual(Web(text).text, text)


def plainly_a_web(text):
    if not re.fullmatch("[a-z]{1,8}(; [a-z]{1,8}( [a-z]{1,8}){1,2})*", text):
        return False
    rows = [part.split(" ") for part in text.split("; ")]
    names = [row[0] for row in rows]
    sources = [name for row in rows for name in row[1:]]
    return (len(names) <= 40 and len(set(names)) == len(names)
            and all(len(set(row)) == len(row) for row in rows)
            and all(name in names[:at] for at, row in enumerate(rows) for name in row[1:])
            and all(sources.count(name) <= 2 for name in sources))


class PropertiesTest(Helper):
    def test_one_copy_alone(self):
        web = Web("a")
        self.assertEqual((web.text, web.names, web.lines, web.ends), ("a", ("a",), (), ("a",)))
        self.assertEqual((web.sources("a"), web.copies("a")), ((), ()))
        self.assertEqual((str(web), repr(web)), ("a", "Web of 1 copies"))

    def test_names_stand_in_their_order(self):
        self.assertEqual(Web("z; b z; a b; y z").names, ("z", "b", "a", "y"))

    def test_lines_stand_in_the_order_of_copies_then_of_sources(self):
        self.assertEqual(
            Web("a; b a; c b a; d c b").lines, (("a", "b"), ("b", "c"), ("a", "c"), ("c", "d"), ("b", "d")))
        self.assertEqual(Web(EVEN).lines, (("a", "b"), ("b", "c"), ("b", "d"), ("c", "d")))

    def test_ends_stand_in_the_order_of_the_names(self):
        self.assertEqual(Web("a; z a; y a").ends, ("z", "y"))
        self.assertEqual(Web(LONG).ends, ("h", "i", "j", "k"))
        self.assertEqual(Web(EVEN).ends, ("d",))

    def test_sources_stand_in_their_order(self):
        web = Web("a; b a; c b; d c b; e a")
        self.assertEqual([web.sources(name) for name in web.names], [(), ("a",), ("b",), ("c", "b"), ("a",)])

    def test_copies_stand_in_the_order_of_the_names(self):
        web = Web("a; z a; y z a; x y z")
        self.assertEqual([web.copies(name) for name in web.names], [("z", "y"), ("y", "x"), ("x",), ()])

    def test_by_name(self):
        web = Web(WIDE)
        self.assertEqual(web.sources(copy="e"), ("b", "c"))
        self.assertEqual(web.copies(source="b"), ("d", "e"))
        self.assertEqual(web.without(copy="f"), web.without("f"))
        self.assertEqual(web.with_copy(name="g", sources=("d", "e")), web.with_copy("g", ("d", "e")))
        self.assertEqual(web.with_copy(sources=("d",), name="g"), web.with_copy("g", ("d",)))

    def test_all_are_tuples(self):
        for text in ("a", *PLAIN, *FORTY):
            web = Web(text)
            values = [web.names, web.lines, web.ends, *web.lines]
            values.extend([web.sources(name) for name in web.names])
            values.extend([web.copies(name) for name in web.names])
            for value in values:
                self.assertIs(type(value), tuple)
            self.assertIs(type(web.text), str)

    def test_all_fit_together(self):
        for text in ("a", *PLAIN, *FORTY, *small_texts(5)):
            web = Web(text)
            lines = [(source, name) for name in web.names for source in web.sources(name)]
            self.assertEqual(list(web.lines), lines)
            for name in web.names:
                self.assertEqual(web.copies(name), tuple([copy for copy in web.names if name in web.sources(copy)]))
            self.assertEqual(web.ends, tuple([name for name in web.names if web.copies(name) == ()]))
            parts = [" ".join([name, *web.sources(name)]) for name in web.names]
            self.assertEqual("; ".join(parts), text)

    def test_unknown_names(self):
        for web in (Web("a; b a"), Web(WIDE)):
            for value in (*ODD, *ODD_TUPLES, *NO_NAMES, "x", "ab", "aa", ("a",), web, Web("a")):
                self.assert_gives(UnknownName, value, web.sources, value)
                self.assert_gives(UnknownName, value, web.sources, copy=value)
                self.assert_gives(UnknownName, value, web.copies, value)
                self.assert_gives(UnknownName, value, web.copies, source=value)

    def test_properties_cannot_be_set(self):
        web = Web(WIDE)
        for word in ("text", "names", "lines", "ends"):
            self.assertIsInstance(vars(Web)[word], property)
            with self.assertRaises(AttributeError):
                setattr(web, word, ())
        self.assertEqual(web, Web(WIDE))


class WithCopyTest(Helper):
    def test_the_copy_comes_behind_the_others(self):
        self.assertEqual(str(Web("a").with_copy("b", ("a",))), "a; b a")
        self.assertEqual(str(Web("b; c b").with_copy("a", ("c", "b"))), "b; c b; a c b")
        self.assertEqual(str(Web("b; c b").with_copy("a", ("b", "c"))), "b; c b; a b c")
        self.assertEqual(str(Web(RING).with_copy("abcdefgh", ("e", "d"))), RING + "; abcdefgh e d")

    def test_a_web_comes_back(self):
        web = Web(SHORT)
        grown = web.with_copy("e", ("b", "c"))
        self.assertIs(type(grown), Web)
        self.assertEqual(grown, Web(RING))
        self.assertEqual(grown.lines, Web(RING).lines)
        self.assertEqual(grown.copies("b"), ("d", "e"))

    def test_the_web_itself_stays(self):
        web = Web(SHORT)
        before = (web.text, web.names, web.lines, web.ends, web.copies("b"), web.sources("d"))
        web.with_copy("e", ("b", "c"))
        web.without("d")
        for name, sources in ((0, ("b",)), ("e", 0), ("e", ("a",))):
            with self.assertRaises((InvalidName, InvalidSources, FullSource)):
                web.with_copy(name, sources)
        after = (web.text, web.names, web.lines, web.ends, web.copies("b"), web.sources("d"))
        self.assertEqual(before, after)
        with self.assertRaises(UnknownName):
            web.sources("e")

    def test_invalid_names(self):
        web = Web(WIDE)
        for value in (*ODD, *ODD_TUPLES, *NO_NAMES, *web.names, ("g",), web):
            self.assert_gives(InvalidName, value, web.with_copy, value, ("d",))
            self.assert_gives(InvalidName, value, web.with_copy, name=value, sources=("d",))

    def test_invalid_sources(self):
        web = Web(WIDE)
        wrong = (("x",), ("d", "x"), ("x", "d"), ("g",), ("d", "g"), ("d", "d"), ("a", "a"), ("d", "e", "f"),
                 ("d", "e", "d"), ("d", "e", "f", "b"), ("A",), ("",), ("d ",), "d", "de", "", web, ["d"], ["d", "e"],
                 {"d": 1}, {"d"}, frozenset("d"), b"d")
        for value in (*ODD, *ODD_TUPLES, *wrong):
            self.assert_gives(InvalidSources, value, web.with_copy, "g", value)
            self.assert_gives(InvalidSources, value, web.with_copy, name="g", sources=value)

    def test_a_list_that_was_passed_stays(self):
        passed = ["d", "e"]
        self.assert_gives(InvalidSources, passed, Web(WIDE).with_copy, "g", passed)
        self.assertEqual(passed, ["d", "e"])

    def test_forty_copies(self):
        web = Web(single_file(39)).with_copy("last", (name_of(38),))
        self.assertEqual(len(web.names), 40)
        self.assertEqual(str(web), single_file(39) + "; last " + name_of(38))
        for sources in (("last",), ("last", name_of(3)), (name_of(7),)):
            with self.assertRaises(TooMany) as caught:
                web.with_copy("more", sources)
            self.assertIs(type(caught.exception), TooMany)
            self.assertEqual(caught.exception.number, 40)

    def test_full_sources(self):
        web = Web(WIDE)
        for sources, full in ((("a",), "a"), (("b",), "b"), (("c",), "c"), (("a", "d"), "a"), (("d", "a"), "a"),
                              (("b", "a"), "b"), (("a", "b"), "a"), (("c", "b"), "c"), (("f", "c"), "c")):
            with self.assertRaises(FullSource) as caught:
                web.with_copy("g", sources)
            self.assertEqual(caught.exception.given, full)

    def test_the_order_of_the_errors(self):
        web = Web(WIDE)
        self.assert_gives(InvalidName, "a", web.with_copy, "a", 0)
        self.assert_gives(InvalidName, None, web.with_copy, None, ("a",))
        self.assert_gives(InvalidName, "a", web.with_copy, sources=None, name="a")
        unknown = ("a", "x")
        self.assert_gives(InvalidSources, unknown, web.with_copy, "g", unknown)
        twice = ("a", "a")
        self.assert_gives(InvalidSources, twice, web.with_copy, "g", twice)

    def test_the_order_of_the_errors_at_forty_copies(self):
        web = Web(chain(40, (2,)))
        names = web.names
        self.assert_gives(InvalidName, names[0], web.with_copy, names[0], (names[0],))
        self.assert_gives(InvalidSources, None, web.with_copy, "more", None)
        unknown = (names[0], "more")
        self.assert_gives(InvalidSources, unknown, web.with_copy, "more", unknown)
        with self.assertRaises(TooMany) as caught:
            web.with_copy("more", (names[0],))
        self.assertEqual(caught.exception.number, 40)


class WithoutTest(Helper):
    def test_an_end_goes(self):
        self.assertEqual(str(Web("a; b a").without("b")), "a")
        self.assertEqual(str(Web(WIDE).without("d")), "a; b a; c a; e b c; f c")
        self.assertEqual(str(Web(WIDE).without("e")), "a; b a; c a; d b; f c")
        self.assertEqual(Web(WIDE).without("d").copies("b"), ("e",))
        self.assertEqual(Web(WIDE).without("d").lines[2:], (("b", "e"), ("c", "e"), ("c", "f")))
        self.assertIs(type(Web(WIDE).without("d")), Web)

    def test_what_goes_may_come_again(self):
        for text in small_texts(4):
            web = Web(text)
            last = web.names[-1]
            self.assertEqual(str(web.without(last).with_copy(last, web.sources(last))), text)

    def test_forty_copies(self):
        for text in FORTY:
            web = Web(text)
            less = web.without(web.names[-1])
            self.assertEqual(less.names, web.names[:-1])
            self.assertEqual(less.with_copy(web.names[-1], web.sources(web.names[-1])), web)

    def test_copies_that_cannot_go(self):
        for text in ("a", *PLAIN):
            web = Web(text)
            for name in web.names:
                if name in web.ends and name != web.names[0]:
                    self.assertEqual(web.without(name).names, tuple([one for one in web.names if one != name]))
                else:
                    self.assert_gives(InvalidName, name, web.without, name)
                    self.assert_gives(InvalidName, name, web.without, copy=name)

    def test_unknown_names(self):
        web = Web(WIDE)
        for value in (*ODD, *ODD_TUPLES, *NO_NAMES, "x", "g", ("d",), web):
            self.assert_gives(UnknownName, value, web.without, value)
            self.assert_gives(UnknownName, value, web.without, copy=value)


class EqualityTest(Helper):
    def assert_unequal(self, one, other):
        self.assertIs(one == other, False)
        self.assertIs(one != other, True)

    def test_equal_if_the_texts_are(self):
        for text in ("a", *PLAIN, *FORTY):
            self.assertIs(Web(text) == Web(text), True)
            self.assertIs(Web(text) != Web(text), False)
        for one in PLAIN:
            for other in PLAIN:
                self.assertIs(Web(one) == Web(other), one == other)
                self.assertIs(Web(one) != Web(other), one != other)

    def test_unequal_if_only_the_order_is_another(self):
        self.assert_unequal(Web("a; b a; c a b"), Web("a; b a; c b a"))
        self.assert_unequal(Web("a; b a; c a"), Web("a; c a; b a"))
        self.assert_unequal(Web("a; b a; c a"), Web("a; b a; c b"))

    def test_unequal_to_all_else(self):
        for web in (Web("a"), Web(WIDE)):
            for value in (*ODD, *ODD_TUPLES, web.text, "Web of 1 copies", web.names, web.lines, {web.text: 1}):
                self.assert_unequal(web, value)

    def test_values_that_equal_all_or_fail(self):
        self.assert_unequal(Web("a"), EqualToAll())
        self.assert_unequal(Web("a"), Touchy())

    def test_true_as_a_condition(self):
        for text in ("a", "a; b a", *PLAIN):
            self.assertIs(bool(Web(text)), True)

    def test_repr(self):
        for many in (1, 2, 3, 10, 40):
            self.assertEqual(repr(Web(single_file(many))), f"Web of {many} copies")


if __name__ == "__main__":
    unittest.main()
