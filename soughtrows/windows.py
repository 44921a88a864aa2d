"""Windows: what the sheets of a held function leave open of it, and all its worths by that."""

from math import lcm

from soughtrows.basics import greatest_divisor
from soughtrows.courses import Course
from soughtrows.polynomials import counting, differences_of, made_of
from soughtrows.ratios import Ratio
from soughtrows.reducing import common_bottom, times_whole
from soughtrows.sheets import needed, shifted_places
from soughtrows.sums import rest_at, rest_degree
from soughtrows.wholes import divisor_mix, lots_of


class Strip:
    """A sheet of a book, to be laid at any whole number of its class."""

    def __init__(self, book, sheet):
        self._at, position, self._shifts = sheet
        self._line = book.lines()[self._at]
        self._number, _, argument = self._line.terms()[position]
        self._last = argument[-1]
        self._common = greatest_divisor(argument[:-1])
        self._unit = divisor_mix(argument[:-1])

    def covers(self, whole):
        return (whole - self._last) % self._common == 0

    def signed_places(self, whole, times):
        """The tuples (sign, place) of the blend that begins at the whole number, with so many times the shifts."""
        # The place is led by the whole number alone: so what the rests say is a polynomial in that.
        many = (whole - self._last) // self._common
        shifts = [[times * number for number in shift] for shift in self._shifts]
        return shifted_places([many * number for number in self._unit], shifts)

    def blend(self, number, whole, times):
        """The tuples (number, position, place) of that blend, divided so that it says so many times the differences."""
        by = Ratio(1).over(self._number) * number
        return [(sign * by, self._at, place) for sign, place in self.signed_places(whole, times)]

    def beside(self, whole):
        """The worth of the differences at the whole number, which the rests give them."""
        letters, rest = self._line.letters, self._line.rest()
        told = [sign * rest_at(letters, rest, place) for sign, place in self.signed_places(whole, 1)]
        return Ratio.total(told).over(-self._number)

    def most_power(self):
        """The degree of the line's rest."""
        return rest_degree(self._line.letters, self._line.rest())


class Window:
    """The unknowns of a held function: at 0 .. step - 1 its first differences by the step, as many as the shifts.

    Its further differences are numbers that the rests give. So at n it is the sum of all these at n's remainder,
    each times the number of lots of so many things out of n // step."""

    def __init__(self, book, function, start):
        self.step, self.many, found = needed(book, function)
        self.start = start
        strips = [Strip(book, sheet) for sheet in found]
        self._strips = [[strip for strip in strips if strip.covers(left)][0] for left in range(self.step)]
        self._further = [self._further_at(left) for left in range(self.step)]

    def _further_at(self, left):
        """The differences of more than so many steps, as far as they are not 0."""
        strip = self._strips[left]
        rounds = range(strip.most_power() + 1 - self.many)
        return differences_of([strip.beside(left + self.step * at) for at in rounds])

    def width(self):
        """How many unknowns these are."""
        return self.step * self.many

    def share(self, whole):
        """The worth at the whole number: tuples (unknown, how many times), and the number beside them."""
        left = whole % self.step
        further = self._further[left]
        lots = lots_of(whole // self.step, self.many + len(further))
        first = self.start + left * self.many
        told = [(first + at, lots[at]) for at in range(self.many)]
        return told, Ratio.total([number * many for number, many in zip(further, lots[self.many:])])

    def course(self, numbers, times):
        """The course with these numbers for all unknowns, and so many times what the rests give."""
        parts = []
        for left in range(self.step):
            first = self.start + left * self.many
            told = numbers[first:first + self.many] + [times * number for number in self._further[left]]
            parts.append(made_of(told, counting(self.step, left, len(told))))
        return Course(parts)

    def read(self, course):
        """The numbers that the course gives the unknowns."""
        found = []
        for left in range(self.step):
            found.extend(differences_of([course.at(left + self.step * at) for at in range(self.many)]))
        return found

    def power_rows(self, wide):
        """The worth at n as a sum of rows times n ** k: for each remainder the list of these rows of Ratios."""
        return [self._power_rows_at(left, wide) for left in range(self.step)]

    def _power_rows_at(self, left, wide):
        further = self._further[left]
        first = self.start + left * self.many
        polynomials = counting(self.step, left, self.many + len(further))
        rows = [[Ratio(0)] * wide for _ in polynomials]
        for at, told in enumerate(polynomials):
            place = first + at if at < self.many else wide - 1
            by = 1 if at < self.many else further[at - self.many]
            for power, number in enumerate(told):
                rows[power][place] = rows[power][place] + by * number
        return rows

    def leading(self, whole, number, is_far):
        """A blend by which the number times the worth at the whole number is led towards the window.

        A tuple of the blend, and the tuples (whole, number) of what it says of the function."""
        wide = self.width()
        signs = _signs(self.many)
        if whole >= wide:
            times = whole // wide if is_far else 1
            base, by = whole - wide * times, number
        else:
            times = -(whole // wide) if is_far else 1
            base, by = whole, signs[0] * number
        blend = self._strips[base % self.step].blend(by, base, times)
        values = [(base + self.step * times * at, sign * by) for at, sign in enumerate(signs)]
        return blend, values


def _signs(many):
    """How often a difference of so many steps has the values, from the first on."""
    return [(1 if (many - at) % 2 == 0 else -1) * lots for at, lots in enumerate(lots_of(many, many + 1))]


def windows_of(book):
    """The windows of all functions of a book that holds them."""
    found = []
    start = 0
    for function in range(book.functions):
        found.append(Window(book, function, start))
        start = start + found[-1].width()
    return found


def whole_power_rows(windows, wide):
    """The power rows of all windows in INTEGERS, and how many times these are the worths."""
    found = [window.power_rows(wide) for window in windows]
    times = 1
    for parts in found:
        for rows in parts:
            for row in rows:
                times = lcm(times, common_bottom(row))
    return [_times_whole_parts(parts, times) for parts in found], times


def _times_whole_parts(told, times):
    return [[times_whole(row, times) for row in rows] for rows in told]
