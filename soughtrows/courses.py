"""Courses: polynomials by remainders."""

from math import lcm

from soughtrows.basics import is_count, is_list
from soughtrows.checks import check_number, check_whole
from soughtrows.errors import InvalidCourse, InvalidNumbers, InvalidParts, InvalidPeriod, TooMany
from soughtrows.polynomials import counting, differences_of, made_of, multiplied, put_sum, summed, worth
from soughtrows.ratios import are_numbers, as_ratio

MOST_PARTS = 60
MOST_NUMBERS = 8
MOST_GROWN = 12
MOST_ROUNDS = 5


class Course:
    """At each whole number n the worth at n of the polynomial that stands at n's remainder."""

    def __init__(self, parts):
        if not _are_parts(parts):
            raise InvalidParts(parts)
        self._parts = _least([_trimmed([as_ratio(number) for number in part]) for part in parts])

    @property
    def period(self):
        return len(self._parts)

    @property
    def degree(self):
        return max([len(part) for part in self._parts]) - 1

    def parts(self):
        """The parts in the least form."""
        return [list(part) for part in self._parts]

    def at(self, whole):
        """The worth at the whole number, a Ratio."""
        check_whole(whole)
        return worth(self._parts[whole % len(self._parts)], whole)

    def __eq__(self, other):
        return isinstance(other, Course) and self._parts == other._parts


def plus(course, other):
    """The sum of both courses."""
    check_course(course)
    check_course(other)
    common = lcm(course.period, other.period)
    if common > MOST_PARTS:
        raise TooMany("period", MOST_PARTS)
    one, two = course.parts(), other.parts()
    return Course([summed(one[left % len(one)], two[left % len(two)]) for left in range(common)])


def times(course, number):
    """The course times the number."""
    check_course(course)
    check_number(number)
    return Course([multiplied(part, number) for part in course.parts()])


def led(course, by, shift):
    """The course that has at n the worth of this one at by * n + shift."""
    check_course(course)
    check_whole(by)
    check_whole(shift)
    parts = course.parts()
    return Course([put_sum(parts[(by * left + shift) % len(parts)], by, shift) for left in range(len(parts))])


def difference(course, step):
    """The course that has at n what this one has at n + step less what it has at n."""
    check_course(course)
    check_whole(step)
    return plus(led(course, 1, step), times(course, -1))


def grown(period, numbers):
    """The course with these worths at 0, 1, 2 .., whose period divides the told one, of the least degree."""
    if not is_count(period) or not 1 <= period <= MOST_GROWN:
        raise InvalidPeriod(period)
    if not is_list(numbers) or len(numbers) not in [period * rounds for rounds in range(MOST_ROUNDS + 1)]:
        raise InvalidNumbers(numbers)
    if not are_numbers(numbers, len(numbers)):
        raise InvalidNumbers(numbers)
    told = [as_ratio(number) for number in numbers]
    many = len(numbers) // period
    return Course([
        made_of(differences_of(told[left::period]), counting(period, left, many)) for left in range(period)
    ])


def check_course(course):
    if not isinstance(course, Course):
        raise InvalidCourse(course)


def is_filling(value, least, most):
    """Whether any value is a list of Courses, at least and at most so many."""
    return is_list(value) and least <= len(value) <= most and all([isinstance(course, Course) for course in value])


def _are_parts(value):
    if not is_list(value) or not 1 <= len(value) <= MOST_PARTS:
        return False
    return all([is_list(part) and len(part) <= MOST_NUMBERS and are_numbers(part, len(part)) for part in value])


def _trimmed(numbers):
    """The numbers without the noughts at the end."""
    many = len(numbers)
    while many > 0 and numbers[many - 1].sign == 0:
        many = many - 1
    return numbers[:many]


def _least(parts):
    """As few parts as tell the same."""
    many = len(parts)
    for period in range(1, many):
        if many % period == 0 and all([part == parts[at % period] for at, part in enumerate(parts)]):
            return parts[:period]
    return parts
