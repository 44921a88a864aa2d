"""Blends that show that no filling keeps a book."""

from soughtrows.blending import blend_that_says
from soughtrows.books import check_book, is_blend, saying_of
from soughtrows.ratios import Ratio
from soughtrows.spaces import answers_of


def none_blend(book):
    """A blend of the book that says no values and a number other than 0, None if some filling keeps the book."""
    found = answers_of(book)
    if found.is_kept():
        return None
    blend = blend_that_says(book, found, [], Ratio(1), True)
    # Far leads may leave a number that takes away the one that is wanted.
    return blend if _says_none(book, blend) else blend_that_says(book, found, [], Ratio(1), False)


def is_none_blend(book, value):
    """Whether any value is a blend of the book that says no values and a number other than 0."""
    check_book(book)
    return is_blend(book, value) and _says_none(book, value)


def _says_none(book, blend):
    values, number = saying_of(book, blend)
    return len(values) == 0 and number.sign != 0
