"""What the parameters of many functions have to be."""

from soughtrows.basics import are_integers, is_count, is_integer
from soughtrows.errors import InvalidLetters, InvalidMore, InvalidNumber, InvalidPlace, InvalidWhole
from soughtrows.ratios import is_number

MOST_LETTERS = 3


def is_place(letters, value):
    """Whether any value is a place of so many letters."""
    return are_integers(value, letters)


def check_letters(letters):
    if not is_count(letters) or letters > MOST_LETTERS:
        raise InvalidLetters(letters)


def check_more(more):
    if not is_count(more) or more > MOST_LETTERS:
        raise InvalidMore(more)


def check_place(letters, place):
    if not is_place(letters, place):
        raise InvalidPlace(place)


def check_number(number):
    if not is_number(number):
        raise InvalidNumber(number)


def check_whole(whole):
    if not is_integer(whole):
        raise InvalidWhole(whole)
