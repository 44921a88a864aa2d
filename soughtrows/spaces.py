"""The spaces of books: all fillings that keep them."""

from math import lcm

from soughtrows.answers import Answers
from soughtrows.basics import is_list
from soughtrows.books import check_book
from soughtrows.courses import is_filling
from soughtrows.errors import NobodyKeeps
from soughtrows.reducing import Span, whole_row
from soughtrows.sheets import check_held


def is_kept(book):
    """Whether some filling keeps the book."""
    return answers_of(book).is_kept()


def dimension(book):
    """How many fillings a basis of the book has."""
    return len(kept_answers(book).basis)


def period(book):
    """The least common multiple of the periods of all courses of all fillings that keep the book."""
    found = 1
    for course in _telling_courses(book):
        found = lcm(found, course.period)
    return found


def degree(book):
    """The greatest of the degrees of all courses of all fillings that keep the book."""
    return max([course.degree for course in _telling_courses(book)])


def space(book):
    """A filling that keeps the book, and a basis of what can be added."""
    found = kept_answers(book)
    return found.filling(found.first, 1), [found.filling(numbers, 0) for numbers in found.basis]


def is_space(book, value):
    """Whether any value is a space of the book."""
    found = answers_of(book)
    if not found.is_kept() or not _is_form_of_space(book, value):
        return False
    first, basis = value
    if len(basis) != len(found.basis) or not found.is_filling_with(first, 1):
        return False
    return all([found.is_filling_with(told, 0) for told in basis]) and _are_free(found, basis)


def answers_of(book):
    """The answers of a book that holds its functions."""
    check_book(book)
    check_held(book)
    return Answers(book)


def kept_answers(book):
    """The answers of a book that holds its functions, and that some filling keeps."""
    found = answers_of(book)
    if not found.is_kept():
        raise NobodyKeeps()
    return found


def _telling_courses(book):
    """The courses of a filling and of a basis: what holds for the periods and degrees of these holds for all."""
    first, basis = space(book)
    found = list(first)
    for filling in basis:
        found.extend(filling)
    return found


def _is_form_of_space(book, value):
    if not isinstance(value, tuple) or len(value) != 2 or not is_list(value[1]):
        return False
    return all([is_filling(told, book.functions, book.functions) for told in [value[0], *value[1]]])


def _are_free(found, basis):
    span = Span()
    return all([span.grow(whole_row(found.read(filling))) for filling in basis])
