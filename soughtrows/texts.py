"""Written forms of values."""

from soughtrows.basics import are_integers, is_list, is_position
from soughtrows.books import MOST_INSTANCES, MOST_LINES, Book
from soughtrows.checks import MOST_LETTERS
from soughtrows.courses import Course
from soughtrows.errors import InvalidSort, InvalidValue
from soughtrows.lines import MOST_FUNCTIONS, Line
from soughtrows.ratios import are_numbers, is_number
from soughtrows.spots import are_spots, are_values
from soughtrows.words import number_word

SORTS = ("numbers", "argument", "line", "book", "course", "spots", "values", "blend")
MOST_WRITTEN = 60


def sorts():
    """The words of the sorts, in their sequence."""
    return list(SORTS)


def is_of_sort(sort, value):
    """Whether any value is one of this sort."""
    _check_sort(sort)
    return _is_of_sort(sort, value)


def written(sort, value):
    """The written form of a value of this sort."""
    _check_sort(sort)
    if not _is_of_sort(sort, value):
        raise InvalidValue(value)
    return "".join([f"{row}\n" for row in _rows(sort, value)])


def _check_sort(sort):
    if sort not in SORTS:
        raise InvalidSort(sort)


def _is_of_sort(sort, value):
    if sort == "numbers":
        return is_list(value) and len(value) <= MOST_WRITTEN and are_numbers(value, len(value))
    if sort == "argument":
        return is_list(value) and 1 <= len(value) <= MOST_LETTERS + 1 and are_integers(value, len(value))
    if sort == "line":
        return isinstance(value, Line)
    if sort == "book":
        return isinstance(value, Book)
    if sort == "course":
        return isinstance(value, Course)
    if sort == "spots":
        return are_spots(MOST_FUNCTIONS, value)
    if sort == "values":
        return are_values(MOST_FUNCTIONS, value)
    return is_list(value) and len(value) <= MOST_INSTANCES and all([_is_instance(told) for told in value])


def _is_instance(value):
    """Whether any value may stand in a blend of some book."""
    if not isinstance(value, tuple) or len(value) != 3:
        return False
    number, position, place = value
    if not is_number(number) or not is_position(MOST_LINES, position):
        return False
    return is_list(place) and len(place) <= MOST_LETTERS and are_integers(place, len(place))


def _rows(sort, value):
    """The lines of the written form, without their line feeds."""
    if sort in ("numbers", "argument"):
        return [_row(sort, value)]
    if sort == "line":
        return _line_rows(value)
    if sort == "book":
        return _book_rows(value)
    if sort == "course":
        return [_row("course", [value.period])] + [_row("part", part) for part in value.parts()]
    if sort == "spots":
        return ["spots"] + [_row("spot", spot) for spot in value]
    if sort == "values":
        return ["values"] + [_row("value", told) for told in value]
    return ["blend"] + [_row("times", [number, position, *place]) for number, position, place in value]


def _line_rows(line):
    terms = [_row("term", [number, function, *argument]) for number, function, argument in line.terms()]
    pieces = [_row("rest", [number, *powers]) for number, powers in line.rest()]
    return [_row("line", [line.letters])] + terms + pieces


def _book_rows(book):
    found = [_row("book", [book.functions])]
    for line in book.lines():
        found.extend(_line_rows(line))
    return found


def _row(word, numbers):
    return " ".join([word] + [number_word(number) for number in numbers])
