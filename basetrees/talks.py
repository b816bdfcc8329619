"""Talks: a shelf answers lines of text."""

from basetrees.choices import how_many
from basetrees.errors import (FullSource, InvalidName, InvalidSources, InvalidText, NoChoice, NotAShelf, NothingToUndo,
                              TooMany, UnknownName)
from basetrees.gaps import gaps
from basetrees.judging import judge
from basetrees.names import is_name
from basetrees.shelves import Shelf
from basetrees.zigzags import kinds

# The numbers of words that a line with this first word may have.
CHANGES = {"put": (3, 4), "take": (2,), "undo": (1,)}
QUESTIONS = {"web": (1,), "ends": (1,), "count": (1,), "kinds": (1,), "line": (3,), "gaps": (1,)}


def answer(shelf, line):
    """What a shelf answers to a line of text."""
    _check_shelf(shelf)
    if not isinstance(line, str):
        raise InvalidText(line)
    words = line.split(" ")
    if not all([is_name(word) for word in words]):
        raise InvalidText(line)
    if len(words) in CHANGES.get(words[0], ()):
        return _answer_to_change(shelf, words)
    if len(words) in QUESTIONS.get(words[0], ()):
        return _answer_to_question(shelf.web, words)
    raise InvalidText(line)


def talk(shelf, text):
    """The answers to the lines of a text, as a text."""
    _check_shelf(shelf)
    if not isinstance(text, str):
        raise InvalidText(text)
    return "\n".join([answer(shelf, line) for line in text.split("\n")])


def _check_shelf(shelf):
    if not isinstance(shelf, Shelf):
        raise NotAShelf(shelf)


def _answer_to_change(shelf, words):
    try:
        _change(shelf, words)
    except InvalidName:
        return "no InvalidName"
    except InvalidSources:
        return "no InvalidSources"
    except UnknownName:
        return "no UnknownName"
    except TooMany:
        return "no TooMany"
    except FullSource:
        return "no FullSource"
    except NothingToUndo:
        return "no NothingToUndo"
    return "done"


def _change(shelf, words):
    word, *names = words
    if word == "put":
        shelf.put(names[0], tuple(names[1:]))
    elif word == "take":
        shelf.take(names[0])
    else:
        shelf.undo()


def _answer_to_question(web, words):
    word, *names = words
    if word == "web":
        return web.text
    if word == "ends":
        return " ".join(web.ends)
    if word == "count":
        return str(how_many(web))
    if word == "gaps":
        return str(gaps(web))
    if word == "kinds":
        return " ".join(kinds(web)) or "none"
    return _answer_to_line(web, names[0], names[1])


def _answer_to_line(web, source, copy):
    try:
        return judge(web, source, copy)
    except UnknownName:
        return "no UnknownName"
    except NoChoice:
        return "no NoChoice"
