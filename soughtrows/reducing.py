"""Rows brought into steps by whole numbers alone, which is much faster than by fractions."""

from math import lcm

from soughtrows.basics import greatest_divisor


def whole_row(row):
    """A row of Ratios times the least number that makes all of it whole, without a common divisor."""
    times = 1
    for number in row:
        times = lcm(times, number.bottom)
    whole = [number.top * (times // number.bottom) for number in row]
    common = greatest_divisor(whole)
    return whole if common == 0 else [number // common for number in whole]


def reduced(rows, wide):
    """A tuple: the steps of rows of Ratios, each times the pivot; the places of their heads; the pivot."""
    left = [whole_row(row) for row in rows]
    heads = []
    pivot = 1
    for place in range(wide):
        done = len(heads)
        at = _first_with(left, done, place)
        if at is not None:
            left[done], left[at] = left[at], left[done]
            left = _cleared(left, done, place, pivot)
            pivot = left[done][place]
            heads.append(place)
    return left[:len(heads)], heads, pivot


def _first_with(rows, low, place):
    for at in range(low, len(rows)):
        if rows[at][place] != 0:
            return at
    return None


def _cleared(rows, at, place, pivot):
    """The rows with noughts above and below the place in the row at this position; pivot is the one ahead."""
    return [row if k == at else _less(row, rows[at], place, pivot) for k, row in enumerate(rows)]


def _less(row, head, place, pivot):
    """Such a sum of multiples of the row and of the one with the head that there is nought at the place."""
    # All numbers are determinants of parts of the rows that were told: so they stay short,
    # and the division by the pivot ahead leaves no remainder (Bareiss 1968).
    by, many = head[place], row[place]
    return [(by * one - many * two) // pivot for one, two in zip(row, head)]
