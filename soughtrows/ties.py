"""What follows of told brackets, what a book does not need, and books that say the same."""

from soughtrows.basics import is_list, is_position
from soughtrows.books import check_book, without_line
from soughtrows.checks import check_letters
from soughtrows.conditions import conditions
from soughtrows.errors import InvalidShapes, UnlikeFunctions
from soughtrows.reducing import Span, common_bottom, kernel_rows, times_whole
from soughtrows.sheets import loose
from soughtrows.spaces import answers_of, kept_answers
from soughtrows.sums import is_argument

MOST_SHAPES = 6


def ties(book, letters, shapes):
    """The steps of all ties of the shapes."""
    check_book(book)
    check_letters(letters)
    if not _are_shapes(book, letters, shapes):
        raise InvalidShapes(shapes)
    found = kept_answers(book)
    span = Span()
    for row in _filling_rows(letters, shapes, found.filling(found.first, 1), [(1, [0] * letters)]):
        span.grow(row)
    for numbers in found.basis:
        for row in _filling_rows(letters, shapes, found.filling(numbers, 0), []):
            span.grow(row)
    return kernel_rows(span.rows(), len(shapes) + 1)


def needless(book):
    """The rising list of the positions of the needless lines."""
    kept_answers(book)
    return [position for position in range(len(book.lines())) if _is_needless(book, position)]


def alike(book, other):
    """Whether the same fillings keep both books."""
    check_book(book)
    check_book(other)
    if book.functions != other.functions:
        raise UnlikeFunctions()
    one, two = answers_of(book), answers_of(other)
    if not one.is_kept() or not two.is_kept():
        return one.is_kept() == two.is_kept()
    return all([one.follows(line) for line in other.lines()]) and all([two.follows(line) for line in book.lines()])


def _is_needless(book, position):
    without = without_line(book, position)
    return len(loose(without)) == 0 and answers_of(without).follows(book.lines()[position])


def _filling_rows(letters, shapes, filling, pieces):
    """Rows that lead the numbers to 0 whose line the filling keeps; without pieces, the line without its rest."""
    wide = len(shapes) + 1
    times = _common_bottom(filling)
    terms = []
    for at, (function, argument) in enumerate(shapes):
        parts = filling[function].parts()
        rows = [[_single(number, at, wide) for number in times_whole(part, times)] for part in parts]
        terms.append((1, rows, list(argument)))
    return conditions(letters, terms, [(times * number, powers) for number, powers in pieces], wide)


def _common_bottom(filling):
    numbers = []
    for course in filling:
        for part in course.parts():
            numbers.extend(part)
    return common_bottom(numbers)


def _single(number, at, wide):
    """A row with nothing but the number, at this place."""
    return [number if place == at else 0 for place in range(wide)]


def _are_shapes(book, letters, value):
    if not is_list(value) or len(value) > MOST_SHAPES:
        return False
    if not all([_is_shape(book, letters, shape) for shape in value]):
        return False
    told = set([(function, *argument) for function, argument in value])
    return len(told) == len(value)


def _is_shape(book, letters, value):
    if not isinstance(value, tuple) or len(value) != 2:
        return False
    return is_position(book.functions, value[0]) and is_argument(letters, value[1])
