"""Books of lines, and blends of their instances."""

from soughtrows.basics import are_counts, is_count, is_list, is_position
from soughtrows.checks import is_place
from soughtrows.errors import (
    InvalidBlend, InvalidBook, InvalidFunction, InvalidFunctions, InvalidLine, InvalidLines, InvalidOrder,
    InvalidPosition, TooMany,
)
from soughtrows.lines import MOST_FUNCTIONS, Line, instance, plain_values
from soughtrows.ratios import Ratio, is_number

MOST_LINES = 6
MOST_INSTANCES = 400


class Book:
    """Some lines over one to three functions."""

    def __init__(self, functions, lines):
        if not is_count(functions) or not 1 <= functions <= MOST_FUNCTIONS:
            raise InvalidFunctions(functions)
        if not is_list(lines) or len(lines) > MOST_LINES:
            raise InvalidLines(lines)
        if not all([is_line_of(functions, line) for line in lines]):
            raise InvalidLines(lines)
        self._functions = functions
        self._lines = list(lines)

    @property
    def functions(self):
        return self._functions

    def lines(self):
        """The lines in their sequence."""
        return list(self._lines)

    def __eq__(self, other):
        return isinstance(other, Book) and self._functions == other._functions and self._lines == other._lines


def with_line(book, line):
    """The book with the line behind the others."""
    check_book(book)
    check_line_of(book, line)
    lines = book.lines()
    if len(lines) == MOST_LINES:
        raise TooMany("lines", MOST_LINES)
    return Book(book.functions, lines + [line])


def without_line(book, position):
    """The book without the line at the position."""
    check_book(book)
    lines = book.lines()
    if not is_position(len(lines), position):
        raise InvalidPosition(position)
    return Book(book.functions, lines[:position] + lines[position + 1:])


def renamed(book, order):
    """The book with the function order[i] in the place of each function i."""
    check_book(book)
    if not are_counts(order, book.functions) or sorted(order) != list(range(book.functions)):
        raise InvalidOrder(order)
    return Book(book.functions, [_line_renamed(line, order) for line in book.lines()])


def is_blend(book, value):
    """Whether any value is a blend of the book."""
    check_book(book)
    if not is_list(value) or len(value) > MOST_INSTANCES:
        return False
    lines = book.lines()
    return all([_is_told_instance(lines, told) for told in value])


def said(book, blend):
    """What the blend says, a saying."""
    check_book(book)
    if not is_blend(book, blend):
        raise InvalidBlend(blend)
    return saying_of(book, blend)


def saying_of(book, blend):
    """What a list of tuples (NUMBER, position of a line, place) says, however long it is."""
    lines = book.lines()
    values, rests = [], []
    for number, position, place in blend:
        found, rest = instance(lines[position], place)
        values.extend([(function, whole, number * worth) for function, whole, worth in found])
        rests.append(number * rest)
    return plain_values(values), Ratio.total(rests)


def is_line_of(functions, value):
    """Whether any value is a line that names functions below this one alone."""
    return isinstance(value, Line) and all([term[1] < functions for term in value.terms()])


def check_book(book):
    if not isinstance(book, Book):
        raise InvalidBook(book)


def check_line_of(book, line):
    if not is_line_of(book.functions, line):
        raise InvalidLine(line)


def check_function(book, function):
    if not is_position(book.functions, function):
        raise InvalidFunction(function)


def _line_renamed(line, order):
    terms = [(number, order[function], argument) for number, function, argument in line.terms()]
    return Line(line.letters, terms, line.rest())


def _is_told_instance(lines, value):
    if not isinstance(value, tuple) or len(value) != 3:
        return False
    number, position, place = value
    return is_number(number) and is_position(len(lines), position) and is_place(lines[position].letters, place)
