"""Lines that follow from books, or break."""

from soughtrows.blending import blend_that_says
from soughtrows.books import check_book, check_line_of, is_blend, said
from soughtrows.checks import check_place
from soughtrows.kept import worth_at
from soughtrows.lines import instance
from soughtrows.spaces import kept_answers
from soughtrows.wholes import shell


def follows(book, line):
    """Whether the line follows from the book."""
    check_book(book)
    check_line_of(book, line)
    return kept_answers(book).follows(line)


def break_by(book, line):
    """A filling that keeps the book, and a place at which it does not keep the line; None if the line follows."""
    check_book(book)
    check_line_of(book, line)
    found = kept_answers(book)
    numbers = found.breaking(line)
    if numbers is None:
        return None
    filling = found.filling(numbers, 1)
    return filling, _break_place(line, filling)


def shown(book, line, place):
    """A blend of the book that shows the line at the place, None if there is none."""
    check_book(book)
    check_line_of(book, line)
    check_place(line.letters, place)
    found = kept_answers(book)
    values, number = instance(line, place)
    if not found.makes(found.row(values, number)):
        return None
    return blend_that_says(book, found, values, number, True)


def is_shown(book, line, place, value):
    """Whether any value is a blend of the book that shows the line at the place."""
    check_book(book)
    check_line_of(book, line)
    check_place(line.letters, place)
    return is_blend(book, value) and said(book, value) == instance(line, place)


def _break_place(line, filling):
    """A place at which the filling does not keep the line; there has to be one."""
    greatest = 0
    while True:
        for place in shell(line.letters, greatest):
            if worth_at(line, filling, place).sign != 0:
                return place
        greatest = greatest + 1
