"""What takes a written form in, line by line, and tells of each whether some written form goes on with it."""

from soughtrows.books import MOST_LINES, Book
from soughtrows.checks import MOST_LETTERS
from soughtrows.courses import MOST_NUMBERS, MOST_PARTS, Course
from soughtrows.lines import MOST_FUNCTIONS, MOST_TERMS, Line
from soughtrows.sums import MOST_POWERS
from soughtrows.texts import is_of_sort
from soughtrows.words import all_told, count_of, integer_of, number_of


class DoneTaker:
    """A form that is done with its first line."""

    def __init__(self, value):
        self._value = value

    def takes(self, words):
        return False

    def lacks(self):
        """Whether lines are lacking."""
        return False

    def told(self):
        return self._value


class RowsTaker:
    """Spots, values or a blend."""

    def __init__(self, sort):
        self._sort = sort
        self._rows = []

    def takes(self, words):
        row = _row_of(self._sort, words)
        if not is_of_sort(self._sort, self._rows + [row]):
            return False
        self._rows.append(row)
        return True

    def lacks(self):
        return False

    def told(self):
        return self._rows


class LineTaker:
    """A line of so many letters over so many functions."""

    def __init__(self, functions, letters):
        self._functions = functions
        self._letters = letters
        self._terms = []
        self._rest = []

    def takes(self, words):
        if words[0] == "term" and len(words) == self._letters + 4:
            return self._takes_term(words)
        if words[0] == "rest" and len(words) == self._letters + 2:
            return self._takes_piece(words)
        return False

    def _takes_term(self, words):
        number, function = number_of(words[1]), count_of(words[2])
        argument = all_told([integer_of(word) for word in words[3:]])
        if not _is_true_number(number) or function is None or function >= self._functions or argument is None:
            return False
        if len(self._rest) > 0 or len(self._terms) == MOST_TERMS:
            return False
        if len(self._terms) > 0 and (function, argument) <= self._terms[-1][1:]:
            return False
        self._terms.append((number, function, argument))
        return True

    def _takes_piece(self, words):
        number, powers = number_of(words[1]), all_told([count_of(word) for word in words[2:]])
        if not _is_true_number(number) or powers is None or sum(powers) > MOST_POWERS:
            return False
        if len(self._rest) > 0 and powers <= self._rest[-1][1]:
            return False
        self._rest.append((number, powers))
        return True

    def lacks(self):
        return False

    def told(self):
        return Line(self._letters, self._terms, self._rest)


class BookTaker:
    """A book of so many functions."""

    def __init__(self, functions):
        self._functions = functions
        self._takers = []

    def takes(self, words):
        if words[0] != "line":
            return len(self._takers) > 0 and self._takers[-1].takes(words)
        letters = _bounded(words, 0, MOST_LETTERS)
        if letters is None or len(self._takers) == MOST_LINES:
            return False
        self._takers.append(LineTaker(self._functions, letters))
        return True

    def lacks(self):
        return False

    def told(self):
        return Book(self._functions, [taker.told() for taker in self._takers])


class CourseTaker:
    """A course of just this period."""

    def __init__(self, period):
        self._period = period
        self._parts = []

    def takes(self, words):
        part = all_told([number_of(word) for word in words[1:]])
        if words[0] != "part" or part is None or len(part) > MOST_NUMBERS or not self.lacks():
            return False
        if len(part) > 0 and part[-1].sign == 0:
            return False
        parts = self._parts + [part]
        # Whatever parts stand ahead, only the last one can make the period a lesser one.
        if len(parts) == self._period and Course(parts).period < self._period:
            return False
        self._parts = parts
        return True

    def lacks(self):
        return len(self._parts) < self._period

    def told(self):
        return Course(self._parts)


def begun(words):
    """What takes in the form that begins with this line, None if no form does."""
    word, *rest = words
    if word in ("spots", "values", "blend"):
        return RowsTaker(word) if len(rest) == 0 else None
    if word == "numbers":
        return _done(word, [number_of(told) for told in rest])
    if word == "argument":
        return _done(word, [integer_of(told) for told in rest])
    if word == "line":
        letters = _bounded(words, 0, MOST_LETTERS)
        return None if letters is None else LineTaker(MOST_FUNCTIONS, letters)
    if word == "book":
        functions = _bounded(words, 1, MOST_FUNCTIONS)
        return None if functions is None else BookTaker(functions)
    if word == "course":
        period = _bounded(words, 1, MOST_PARTS)
        return None if period is None else CourseTaker(period)
    return None


def _done(sort, value):
    return DoneTaker(value) if is_of_sort(sort, value) else None


def _bounded(words, least, most):
    """The COUNT that alone stands behind the first word, None if it is not within the bounds."""
    count = count_of(words[1]) if len(words) == 2 else None
    return None if count is None or not least <= count <= most else count


def _row_of(sort, words):
    """The row with these words, None if no row of the sort has as many or begins so; it may be wrong in its parts."""
    word, *rest = words
    if (sort, word, len(rest)) == ("spots", "spot", 2):
        return count_of(rest[0]), integer_of(rest[1])
    if (sort, word, len(rest)) == ("values", "value", 3):
        return count_of(rest[0]), integer_of(rest[1]), number_of(rest[2])
    if (sort, word) == ("blend", "times") and len(rest) >= 2:
        return number_of(rest[0]), count_of(rest[1]), [integer_of(told) for told in rest[2:]]
    return None


def _is_true_number(number):
    """Whether it was told, and is not 0."""
    return number is not None and number.sign != 0
