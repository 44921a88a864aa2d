"""Lines: equations between functions of sums of letters."""

from soughtrows.basics import is_count, is_list
from soughtrows.checks import check_letters, check_number, check_place
from soughtrows.errors import InvalidLine, InvalidTerms, TooMany, UnlikeLetters
from soughtrows.joining import joined
from soughtrows.ratios import is_number
from soughtrows.sums import (
    argument_at, argument_put, check_puts, check_rest, is_argument, plain_rest, rest_at, rest_put,
)

MOST_TERMS = 8
MOST_FUNCTIONS = 3


class Line:
    """It says that its terms and its rest add up to 0 at every place of its letters."""

    def __init__(self, letters, terms, rest):
        check_letters(letters)
        if not _are_terms(letters, terms):
            raise InvalidTerms(terms)
        check_rest(letters, rest)
        self._letters = letters
        self._terms = _plain_terms(terms)
        self._rest = plain_rest(letters, rest)

    @property
    def letters(self):
        return self._letters

    def terms(self):
        """The plain terms, tuples (Ratio, function, argument)."""
        return [(number, function, list(argument)) for number, function, argument in self._terms]

    def rest(self):
        """The plain pieces of the rest, tuples (Ratio, powers)."""
        return [(number, list(powers)) for number, powers in self._rest]

    def __eq__(self, other):
        return (
            isinstance(other, Line) and self._letters == other._letters
            and self._terms == other._terms and self._rest == other._rest
        )


def instance(line, place):
    """What the line says at the place, a saying."""
    check_line(line)
    check_place(line.letters, place)
    values = [
        (function, argument_at(line.letters, argument, place), number)
        for number, function, argument in line.terms()
    ]
    return plain_values(values), rest_at(line.letters, line.rest(), place)


def put(line, more, puts):
    """The line with puts."""
    check_line(line)
    check_puts(line.letters, more, puts)
    terms = [
        (number, function, argument_put(line.letters, argument, more, puts))
        for number, function, argument in line.terms()
    ]
    return Line(more, terms, rest_put(line.letters, line.rest(), more, puts))


def plus(line, other):
    """Both lines added."""
    check_line(line)
    check_line(other)
    if line.letters != other.letters:
        raise UnlikeLetters()
    terms = _plain_terms(line.terms() + other.terms())
    if len(terms) > MOST_TERMS:
        raise TooMany("terms", MOST_TERMS)
    # Both rests together may have more pieces than a rest may be told with.
    pieces = joined([(tuple(powers), number) for number, powers in line.rest() + other.rest()])
    return Line(line.letters, terms, [(number, powers) for powers, number in pieces])


def times(line, number):
    """The line times a number."""
    check_line(line)
    check_number(number)
    terms = [(number * told, function, argument) for told, function, argument in line.terms()]
    return Line(line.letters, terms, [(number * told, powers) for told, powers in line.rest()])


def plain_values(values):
    """Tuples (function, whole number, NUMBER), sorted, like ones joined, none with 0."""
    pairs = [((function, whole), number) for function, whole, number in values]
    return [(function, whole, number) for (function, whole), number in joined(pairs)]


def check_line(line):
    if not isinstance(line, Line):
        raise InvalidLine(line)


def _are_terms(letters, value):
    return is_list(value) and len(value) <= MOST_TERMS and all([_is_term(letters, term) for term in value])


def _is_term(letters, value):
    if not isinstance(value, tuple) or len(value) != 3:
        return False
    number, function, argument = value
    return is_number(number) and is_count(function) and function < MOST_FUNCTIONS and is_argument(letters, argument)


def _plain_terms(terms):
    pairs = [((function, *argument), number) for number, function, argument in terms]
    return [(number, key[0], list(key[1:])) for key, number in joined(pairs)]
