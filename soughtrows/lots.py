"""Lots of spots: whether they settle a book, which of them are free, and fillings that they do not tell apart."""

from soughtrows.books import check_book
from soughtrows.errors import InvalidSpots
from soughtrows.reducing import Span, kernel_rows, whole_row
from soughtrows.spaces import kept_answers
from soughtrows.spots import are_spots


def settles(book, spots):
    """Whether the spots settle the book."""
    found = _answers_with(book, spots)
    return len(_free(found, spots)) == len(found.basis)


def rank_of(book, spots):
    """The rank of the spots."""
    return len(first_free(book, spots))


def first_free(book, spots):
    """The list of the free spots, in their sequence."""
    return _free(_answers_with(book, spots), spots)


def least_spots(book):
    """Spots that settle the book, as many as its dimension."""
    found = kept_answers(book)
    # A course with noughts all along its window is nought throughout, so the windows settle everything.
    windows = [
        (function, whole) for function, window in enumerate(found.windows) for whole in range(window.width())
    ]
    return _free(found, windows)


def twins(book, spots):
    """Two unlike fillings that keep the book and are alike at the spots, None if these settle it."""
    found = _answers_with(book, spots)
    rows = [whole_row(found.basis_row(function, whole)) for function, whole in spots]
    unseen = kernel_rows(rows, len(found.basis))
    if len(unseen) == 0:
        return None
    return found.filling(found.first, 1), found.filling(found.made(unseen[0]), 1)


def _answers_with(book, spots):
    """The answers of the book, of which these are spots."""
    check_book(book)
    if not are_spots(book.functions, spots):
        raise InvalidSpots(spots)
    return kept_answers(book)


def _free(found, spots):
    span = Span()
    return [
        (function, whole) for function, whole in spots if span.grow(whole_row(found.basis_row(function, whole)))
    ]
