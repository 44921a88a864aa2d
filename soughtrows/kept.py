"""Whether fillings keep lines and books, seen by looking at places."""

from math import lcm

from soughtrows.basics import product_sum
from soughtrows.books import check_book
from soughtrows.checks import check_place
from soughtrows.courses import is_filling
from soughtrows.errors import InvalidFilling, TooMany
from soughtrows.lines import MOST_FUNCTIONS, check_line
from soughtrows.ratios import Ratio
from soughtrows.sums import rest_at, rest_degree
from soughtrows.wholes import box, counts_within

MOST_PLACES = 2000


def value_at(line, filling, place):
    """What the line adds up to at the place."""
    check_line_filling(line, filling)
    check_place(line.letters, place)
    return worth_at(line, filling, place)


def look(line, filling):
    """How many places the line's look has."""
    check_line_filling(line, filling)
    return _size(line, filling)


def keeps(line, filling):
    """Whether the filling keeps the line."""
    return break_of(line, filling) is None


def break_of(line, filling):
    """A place at which the filling does not keep the line, None if it keeps it."""
    check_line_filling(line, filling)
    _check_size([line], filling)
    return _first_break(line, filling)


def keeps_book(book, filling):
    """Whether the filling keeps the book."""
    return break_in(book, filling) is None


def break_in(book, filling):
    """The tuple of the position of a line and a place at which the filling does not keep it, None if it keeps all."""
    check_book(book)
    check_filling(book, filling)
    _check_size(book.lines(), filling)
    for position, line in enumerate(book.lines()):
        place = _first_break(line, filling)
        if place is not None:
            return position, place
    return None


def is_keeping(book, value):
    """Whether any value is a filling of the book that keeps it, with looks of not too many places."""
    if not is_filling(value, book.functions, book.functions):
        return False
    lines = book.lines()
    return not _has_long_look(lines, value) and all([_first_break(line, value) is None for line in lines])


def check_filling(book, filling):
    if not is_filling(filling, book.functions, book.functions):
        raise InvalidFilling(filling)


def check_line_filling(line, filling):
    check_line(line)
    greatest = max([function for _, function, _ in line.terms()], default=0)
    if not is_filling(filling, greatest + 1, MOST_FUNCTIONS):
        raise InvalidFilling(filling)


def worth_at(line, filling, place):
    """What the line adds up to; all that is passed is valid."""
    values = [
        number * filling[function].at(product_sum(argument, place) + argument[-1])
        for number, function, argument in line.terms()
    ]
    return Ratio.total(values) + rest_at(line.letters, line.rest(), place)


def _measure(line, filling):
    """The tuple of the N and the E of the line's look."""
    common, most = 1, max(0, rest_degree(line.letters, line.rest()))
    for _, function, _ in line.terms():
        common = lcm(common, filling[function].period)
        most = max(most, filling[function].degree)
    return common, most


def _size(line, filling):
    common, most = _measure(line, filling)
    found = len(counts_within(line.letters, most))
    for _ in range(line.letters):
        found = found * common
    return found


def _has_long_look(lines, filling):
    return any([_size(line, filling) > MOST_PLACES for line in lines])


def _check_size(lines, filling):
    if _has_long_look(lines, filling):
        raise TooMany("places", MOST_PLACES)


def _first_break(line, filling):
    """The first place of the line's look at which the filling does not keep it, None if it keeps it."""
    common, most = _measure(line, filling)
    lots = counts_within(line.letters, most)
    for first in box(line.letters, common):
        for told in lots:
            place = [number + common * many for number, many in zip(first, told)]
            if worth_at(line, filling, place).sign != 0:
                return place
    return None
