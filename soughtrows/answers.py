"""All fillings that keep a book that holds its functions, by the unknowns of their windows."""

from soughtrows.conditions import line_conditions
from soughtrows.ratios import Ratio
from soughtrows.reducing import Span, all_that_meet, led_to, whole_row
from soughtrows.windows import whole_power_rows, windows_of


class Answers:
    """The conditions on the unknowns, and what meets them. Rows have a place for each unknown, and one beside them."""

    def __init__(self, book):
        self.windows = windows_of(book)
        self.wide = sum([window.width() for window in self.windows]) + 1
        self._parts, self._times = whole_power_rows(self.windows, self.wide)
        self.span = Span()
        for line in book.lines():
            for row in self.line_rows(line):
                self.span.grow(row)
        self.first, self.basis = all_that_meet(self.span.rows(), self.wide - 1)

    def is_kept(self):
        return self.first is not None

    def line_rows(self, line):
        """The rows that lead to 0 just the unknowns, with 1 beside them, whose fillings keep the line."""
        return line_conditions(line, self._parts, self._times, self.wide)

    def follows(self, line):
        """Whether all that keep the book keep the line."""
        return all([self.span.makes(row) for row in self.line_rows(line)])

    def breaking(self, line):
        """Numbers for the unknowns that meet all conditions, but do not keep the line; None if there are none."""
        for row in self.line_rows(line):
            for numbers in self._some():
                if led_to(row, [*numbers, 1]).sign != 0:
                    return numbers
        return None

    def _some(self):
        """The first numbers, and these with each of the basis added."""
        added = [[one + two for one, two in zip(self.first, told)] for told in self.basis]
        return [self.first] + added

    def row(self, values, number):
        """What a saying says, as a row of Ratios."""
        found = [Ratio(0)] * (self.wide - 1) + [number]
        for function, whole, worth in values:
            told, beside = self.windows[function].share(whole)
            for unknown, many in told:
                found[unknown] = found[unknown] + worth * many
            found[-1] = found[-1] + worth * beside
        return found

    def worth(self, function, whole, numbers, times):
        """The worth at the whole number with these numbers for the unknowns, and so many times what the rests give."""
        return led_to(self.row([(function, whole, Ratio(1))], Ratio(0)), [*numbers, times])

    def basis_row(self, function, whole):
        """The worths that the basis has at the whole number."""
        row = self.row([(function, whole, Ratio(1))], Ratio(0))
        return [led_to(row, [*numbers, 0]) for numbers in self.basis]

    def made(self, times):
        """The first numbers, and those of the basis, each so many times, added."""
        found = self.first
        for many, numbers in zip(times, self.basis):
            found = [one + many * two for one, two in zip(found, numbers)]
        return found

    def filling(self, numbers, times):
        """The filling with these numbers for the unknowns, and so many times what the rests give."""
        return [window.course(numbers, times) for window in self.windows]

    def is_filling_with(self, filling, times):
        """Whether the filling keeps the book; if times is 0, whether it is the difference of two that do."""
        numbers = self.read(filling)
        if any([led_to(row, [*numbers, times]).sign != 0 for row in self.span.rows()]):
            return False
        return self.filling(numbers, times) == list(filling)

    def read(self, filling):
        """The numbers that the filling gives the unknowns."""
        found = []
        for window, course in zip(self.windows, filling):
            found.extend(window.read(course))
        return found

    def makes(self, row):
        """Whether the row is 0 by the conditions, for all that meet them."""
        return self.span.makes(whole_row(row))
