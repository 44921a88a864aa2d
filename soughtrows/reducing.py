"""Rows brought into steps by whole numbers alone, which is much faster than by fractions."""

from math import lcm

from soughtrows.basics import greatest_divisor
from soughtrows.ratios import Ratio


def whole_row(row):
    """A row of Ratios times the least number that makes all of it whole, without a common divisor."""
    return short_row(times_whole(row, common_bottom(row)))


def common_bottom(row):
    """The least number above 0 that makes all of a row of Ratios whole."""
    found = 1
    for number in row:
        found = lcm(found, number.bottom)
    return found


def times_whole(row, times):
    """A row of Ratios times a number that makes all of it whole, in INTEGERS."""
    return [number.top * (times // number.bottom) for number in row]


def short_row(row):
    """A row of INTEGERS divided by the greatest number that goes into all of them."""
    common = greatest_divisor(row)
    return row if common == 0 else [number // common for number in row]


def reduced(rows, wide):
    """A tuple: the steps of rows of INTEGERS, each times the pivot; the places of their heads; the pivot."""
    left = list(rows)
    heads = []
    pivot = 1
    for place in range(wide):
        done = len(heads)
        at = _first_with(left, done, place)
        if at is not None:
            left[done], left[at] = left[at], left[done]
            left = _cleared(left, done, place, pivot)
            pivot = left[done][place]
            heads.append(place)
    return left[:len(heads)], heads, pivot


def kernel_rows(rows, wide):
    """The kernel of rows of INTEGERS of this width."""
    # Mirrored rows have their heads as far right as can be: so whatever is free stands ahead
    # of the heads that hang on it, and the lists come out in steps.
    mirrored, places, pivot = reduced([row[::-1] for row in rows], wide)
    found = [row[::-1] for row in mirrored]
    heads = [wide - 1 - place for place in places]
    return [_kernel_row(found, heads, pivot, free, wide) for free in range(wide) if free not in heads]


def _kernel_row(found, heads, pivot, free, wide):
    """The list that all rows lead to 0, with 1 at this free place and 0 at the others."""
    made = [Ratio(0)] * wide
    made[free] = Ratio(1)
    for row, head in zip(found, heads):
        made[head] = Ratio(-row[free], pivot)
    return made


def solved(rows, goals, wide):
    """A list of this width that each row of Ratios leads to its goal, None if there is none."""
    found, heads, pivot = reduced([whole_row([*row, goal]) for row, goal in zip(rows, goals)], wide + 1)
    if wide in heads:
        return None
    made = [Ratio(0)] * wide
    for row, head in zip(found, heads):
        made[head] = Ratio(row[wide], pivot)
    return made


def all_that_meet(rows, wide):
    """All lists of this width that rows of INTEGERS, a place wider, lead to 0 with 1 behind the list.

    A tuple of one of them, None if there are none, and free lists whose sums of multiples can be added."""
    goals = [Ratio(-row[wide]) for row in rows]
    parts = [row[:wide] for row in rows]
    return solved([[Ratio(number) for number in part] for part in parts], goals, wide), kernel_rows(parts, wide)


def led_to(row, numbers):
    """What the row leads the numbers to."""
    return Ratio.total([one * two for one, two in zip(row, numbers)])


def columns_of(rows, wide):
    """What stands at each place of rows of this width."""
    return [[row[place] for row in rows] for place in range(wide)]


class Span:
    """All that is made of some rows of INTEGERS of one width; it grows."""

    def __init__(self):
        self._by_head = {}

    def rows(self):
        """Free rows of which all is made."""
        return list(self._by_head.values())

    def left_of(self, row):
        """The row less what takes away the heads of the rows here: noughts if it is made of these."""
        for place in range(len(row)):
            if row[place] != 0 and place in self._by_head:
                head = self._by_head[place]
                by, many = head[place], row[place]
                row = short_row([by * one - many * two for one, two in zip(row, head)])
        return row

    def makes(self, row):
        """Whether the row is made of those here."""
        return not any(self.left_of(row))

    def grow(self, row):
        """Takes the row in; tells whether it is free of those that were here."""
        left = self.left_of(row)
        for place in range(len(left)):
            if left[place] != 0:
                self._by_head[place] = short_row(left)
                return True
        return False


def _first_with(rows, low, place):
    for at in range(low, len(rows)):
        if rows[at][place] != 0:
            return at
    return None


def _cleared(rows, at, place, pivot):
    """The rows with noughts above and below the place in the row at this position; pivot is the one ahead."""
    return [row if k == at else _less(row, rows[at], place, pivot) for k, row in enumerate(rows)]


def _less(row, head, place, pivot):
    """Such a sum of multiples of the row and of the one with the head that there is nought at the place."""
    # All numbers are determinants of parts of the rows that were told: so they stay short,
    # and the division by the pivot ahead leaves no remainder (Bareiss 1968).
    by, many = head[place], row[place]
    return [(by * one - many * two) // pivot for one, two in zip(row, head)]
