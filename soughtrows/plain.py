"""Plain fillings, one polynomial for each function: what is left if the letters stand for all fractions."""

from soughtrows.basics import product_sum
from soughtrows.books import check_book
from soughtrows.conditions import line_conditions
from soughtrows.courses import Course
from soughtrows.directions import alone, order
from soughtrows.errors import InvalidFilling, InvalidNumbers, NotPlainlyHeld
from soughtrows.kept import check_line_filling
from soughtrows.polynomials import worth
from soughtrows.ratios import Ratio, are_numbers
from soughtrows.reducing import all_that_meet
from soughtrows.spaces import period
from soughtrows.sums import power_product, rest_degree


def is_plainly_held(book):
    """Whether the book holds all its functions plainly."""
    check_book(book)
    return all([len(_lone_terms(book, function)) > 0 for function in range(book.functions)])


def plain_value(line, filling, numbers):
    """What the line adds up to with these numbers put for its letters."""
    check_line_filling(line, filling)
    if any([course.period > 1 for course in filling]):
        raise InvalidFilling(filling)
    if not are_numbers(numbers, line.letters):
        raise InvalidNumbers(numbers)
    parts = [course.parts()[0] for course in filling]
    values = [
        number * worth(parts[function], product_sum(argument, numbers) + argument[-1])
        for number, function, argument in line.terms()
    ]
    return Ratio.total(values + [number * power_product(powers, numbers) for number, powers in line.rest()])


def plain_dimension(book):
    """The dimension of the plain fillings that keep the book, None if none does."""
    found = plain_space(book)
    return None if found is None else len(found[1])


def plain_space(book):
    """A plain filling that keeps the book, and a basis of what can be added; None if none does."""
    if not is_plainly_held(book):
        raise NotPlainlyHeld()
    sizes = [_most_numbers(book, function) for function in range(book.functions)]
    wide = sum(sizes)
    parts = _power_rows(sizes, wide + 1)
    rows = []
    for line in book.lines():
        rows.extend(line_conditions(line, parts, 1, wide + 1))
    first, basis = all_that_meet(rows, wide)
    if first is None:
        return None
    return _filling(sizes, first), [_filling(sizes, numbers) for numbers in basis]


def is_only_plain(book):
    """Whether all fillings that keep the book are plain."""
    return period(book) == 1


def _lone_terms(book, function):
    """The tuples (line, position in its terms) of all terms with the function that stand alone."""
    return [
        (line, position) for line in book.lines() for position in alone(line)
        if line.terms()[position][1] == function
    ]


def _most_numbers(book, function):
    """How many numbers a polynomial of the function that keeps the book may have."""
    return 1 + min([
        max(order(line, position) - 1, rest_degree(line.letters, line.rest()))
        for line, position in _lone_terms(book, function)
    ])


def _power_rows(sizes, wide):
    """For each function its one part: the rows that stand beside the powers."""
    found, start = [], 0
    for size in sizes:
        found.append([[[1 if place == start + at else 0 for place in range(wide)] for at in range(size)]])
        start = start + size
    return found


def _filling(sizes, numbers):
    """The plain filling with these numbers in its polynomials, one behind another."""
    found, start = [], 0
    for size in sizes:
        found.append(Course([numbers[start:start + size]]))
        start = start + size
    return found
