"""Told values of functions: fillings that have them, clashes, and what they force."""

from soughtrows.books import check_book, check_function
from soughtrows.checks import check_whole
from soughtrows.errors import InvalidValues, NoneHasThem
from soughtrows.ratios import Ratio, are_numbers, as_ratio
from soughtrows.reducing import columns_of, led_to, solved
from soughtrows.spaces import kept_answers
from soughtrows.spots import are_values


def through(book, values):
    """A filling that keeps the book and has the values, None if there is none."""
    found = _answers_with(book, values)
    numbers = _numbers_through(found, values)
    return None if numbers is None else found.filling(numbers, 1)


def clash(book, values):
    """A clash of the values, None if some filling that keeps the book has them."""
    found = _answers_with(book, values)
    rows, goals = _rows_and_goals(found, values)
    columns = columns_of(rows, len(found.basis))
    return solved(columns + [goals], [Ratio(0)] * len(columns) + [Ratio(1)], len(values))


def is_clash(book, values, value):
    """Whether any value is a clash of the values."""
    found = _answers_with(book, values)
    if not are_numbers(value, len(values)):
        return False
    rows, goals = _rows_and_goals(found, values)
    worths = [led_to(column, value) for column in columns_of(rows, len(found.basis))]
    return all([worth.sign == 0 for worth in worths]) and led_to(goals, value).sign != 0


def forced(book, values, function, whole):
    """The worth of the function at the whole number that the values force, None if they force none."""
    check_book(book)
    _check_values(book, values)
    check_function(book, function)
    check_whole(whole)
    found = kept_answers(book)
    numbers = _numbers_through(found, values)
    if numbers is None:
        raise NoneHasThem()
    rows, _ = _rows_and_goals(found, values)
    columns = columns_of(rows, len(found.basis))
    if solved(columns, found.basis_row(function, whole), len(values)) is None:
        return None
    return found.worth(function, whole, numbers, 1)


def _answers_with(book, values):
    """The answers of the book, of which these are values."""
    check_book(book)
    _check_values(book, values)
    return kept_answers(book)


def _rows_and_goals(found, values):
    """What the basis has at the spots of the values, and how much more these are than the first filling has there."""
    rows = [found.basis_row(function, whole) for function, whole, _ in values]
    goals = [as_ratio(told) - found.worth(function, whole, found.first, 1) for function, whole, told in values]
    return rows, goals


def _numbers_through(found, values):
    """Numbers for the unknowns whose filling keeps the book and has the values, None if there are none."""
    rows, goals = _rows_and_goals(found, values)
    times = solved(rows, goals, len(found.basis))
    return None if times is None else found.made(times)


def _check_values(book, values):
    if not are_values(book.functions, values):
        raise InvalidValues(values)
