"""Stretches of whole numbers: tables that keep a book within them, and whether all of these come from fillings."""

from soughtrows.answers import Answers
from soughtrows.basics import is_integer, is_list, product_sum
from soughtrows.books import check_book
from soughtrows.errors import InvalidHigh, InvalidLow, InvalidTables, TooMany
from soughtrows.lines import instance
from soughtrows.ratios import Ratio, are_numbers
from soughtrows.reducing import Span, all_that_meet, whole_row
from soughtrows.sheets import check_held
from soughtrows.wholes import box

FARTHEST = 1000
MOST_STEPS = 30
MOST_INSIDE = 400
MOST_UNKNOWNS = 24


def inside(book, low, high):
    """The sorted list of the tuples (position of a line, place) of all instances inside the stretch."""
    _check_stretch(book, low, high)
    return _inside(book, low, high)


def keeps_within(book, low, high, tables):
    """Whether the tables keep all instances inside the stretch."""
    return break_within(book, low, high, tables) is None


def break_within(book, low, high, tables):
    """A tuple (position, place) of an instance inside that the tables do not keep, None if they keep all."""
    _check_stretch(book, low, high)
    if not _are_tables(book, low, high, tables):
        raise InvalidTables(tables)
    lines = book.lines()
    for position, place in _inside(book, low, high):
        values, number = instance(lines[position], place)
        told = [worth * tables[function][whole - low] for function, whole, worth in values]
        if (Ratio.total(told) + number).sign != 0:
            return position, place
    return None


def is_long(book, low, high):
    """Whether the stretch is long for the book."""
    return stray(book, low, high) is None


def stray(book, low, high):
    """Tables that keep all instances inside and are part of no filling that keeps the book, None if there are none."""
    _check_stretch(book, low, high)
    check_held(book)
    size = high - low + 1
    if book.functions * size > MOST_UNKNOWNS:
        raise TooMany("unknowns", MOST_UNKNOWNS)
    some, added = all_that_meet(_instance_rows(book, low, high), book.functions * size)
    if some is None:
        return None
    found = Answers(book)
    if not found.is_kept():
        return _tables(some, size)
    spots = [(function, whole) for function in range(book.functions) for whole in range(low, high + 1)]
    part = _worths(found, spots, found.first, 1)
    # What is part of a filling keeps all inside: so tables stray just if they are such a part
    # and something else that can be added than what fillings add.
    span = Span()
    for numbers in found.basis:
        span.grow(whole_row(_worths(found, spots, numbers, 0)))
    for row in added:
        if not span.makes(whole_row(row)):
            return _tables([one + two for one, two in zip(part, row)], size)
    return None


def _worths(found, spots, numbers, times):
    return [found.worth(function, whole, numbers, times) for function, whole in spots]


def _instance_rows(book, low, high):
    """The instances inside as rows of INTEGERS, with a place for each number of the tables, and one beside them."""
    size = high - low + 1
    lines = book.lines()
    found = []
    for position, place in _inside(book, low, high):
        values, number = instance(lines[position], place)
        row = [Ratio(0)] * (book.functions * size) + [number]
        for function, whole, worth in values:
            row[function * size + whole - low] = worth
        found.append(whole_row(row))
    return found


def _tables(numbers, size):
    """The numbers of all tables, parted into these."""
    return [numbers[at:at + size] for at in range(0, len(numbers), size)]


def _inside(book, low, high):
    """All instances inside a stretch that is valid, sorted."""
    found = []
    for position, line in enumerate(book.lines()):
        found.extend([(position, place) for place in _places_inside(line, low, high)])
        if len(found) > MOST_INSIDE:
            raise TooMany("instances", MOST_INSIDE)
    return found


def _places_inside(line, low, high):
    """The places of the line's instances inside, sorted."""
    arguments = [argument for _, _, argument in line.terms()]
    if line.letters == 0:
        return [[]] if all([low <= argument[0] <= high for argument in arguments]) else []
    found = []
    for told in box(line.letters - 1, high - low + 1):
        ahead = [low + number for number in told]
        least, most = _bounds(arguments, ahead, low, high)
        found.extend([ahead + [last] for last in range(least, most + 1)])
    return found


def _bounds(arguments, ahead, low, high):
    """The least and the greatest number of the last letter with which all is inside; the least is above if none is."""
    least, most = low, high
    for argument in arguments:
        many, beside = argument[-2], product_sum(argument, ahead) + argument[-1]
        if many == 0 and not low <= beside <= high:
            return low, low - 1
        if many > 0:
            least, most = max(least, -((beside - low) // many)), min(most, (high - beside) // many)
        if many < 0:
            least, most = max(least, -((beside - high) // many)), min(most, (low - beside) // many)
    return least, most


def _check_stretch(book, low, high):
    check_book(book)
    if not is_integer(low) or abs(low) > FARTHEST:
        raise InvalidLow(low)
    if not is_integer(high) or not low <= high <= low + MOST_STEPS:
        raise InvalidHigh(high)


def _are_tables(book, low, high, value):
    if not is_list(value) or len(value) != book.functions:
        return False
    return all([are_numbers(table, high - low + 1) for table in value])
