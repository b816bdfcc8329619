"""Choices: a source for each copy but the first one, such that each copy that is no end is chosen."""

from basetrees.checks import check_web
from basetrees.errors import InvalidChoice, InvalidNumber
from basetrees.integers import is_integer
from basetrees.names import is_one_of
from basetrees.turns import Turns, choice_among
from basetrees.zigzags import ways


def how_many(web):
    """The number of choices."""
    many = 1
    for number in ways(web):
        many = many * number
    return many


def choice_at(web, number):
    """The choice with this number, counted from 0 in their order."""
    check_web(web)
    turns = Turns(web, ())
    if not is_integer(number) or not 0 <= number < turns.many:
        raise InvalidNumber(number)
    return choice_among(web, turns, number)


def number_of(web, choice):
    """The number of a choice."""
    lines = kept(web, choice)
    turns = Turns(web, ())
    number = 0
    for source, copy in lines:
        first = web.sources(copy)[0]
        if source != first:
            number += turns.many_with((first, copy))
        turns.tell((source, copy), True)
    return number


def kept(web, choice):
    """The tuple of the lines that a choice keeps, in their order."""
    check_web(web)
    check_choice(web, choice)
    return tuple(zip(choice, web.names[1:]))


def is_choice(web, value):
    """Whether any value is a choice of the web."""
    check_web(web)
    copies = web.names[1:]
    if not isinstance(value, tuple) or len(value) != len(copies):
        return False
    if not all([is_one_of(source, web.sources(copy)) for source, copy in zip(value, copies)]):
        return False
    # Whatever is chosen is no end: if there are as many of both, all others are chosen.
    return len(set(value)) == len(web.names) - len(web.ends)


def check_choice(web, choice):
    """Raise InvalidChoice if the value is no choice of the web."""
    if not is_choice(web, choice):
        raise InvalidChoice(choice)
