"""Polynomials, told by the list of their numbers: the one beside n ** k stands at k."""

from soughtrows.ratios import Ratio


def worth(numbers, whole):
    """What the polynomial is worth at the whole number."""
    found = Ratio(0)
    for number in numbers[::-1]:
        found = found * whole + number
    return found


def summed(one, two):
    """Both polynomials added."""
    many = max(len(one), len(two))
    longer = [numbers + [Ratio(0)] * (many - len(numbers)) for numbers in [one, two]]
    return [left + right for left, right in zip(*longer)]


def multiplied(numbers, number):
    """The polynomial times the number."""
    return [number * told for told in numbers]


def put_sum(numbers, by, shift):
    """The polynomial that has at n the worth of this one at by * n + shift."""
    found = []
    for number in numbers[::-1]:
        found = summed(_times_sum(found, shift, by), [number])
    return found


def counting(step, first, many):
    """So many polynomials: how many lots of 0, 1, 2 .. there are out of (n - first) / step things."""
    found = [[Ratio(1)]]
    for size in range(1, many):
        by = Ratio(1, step * size)
        found.append(_times_sum(found[-1], by * (-first - step * (size - 1)), by))
    return found[:many]


def made_of(numbers, polynomials):
    """The polynomials, each times its number, added up."""
    found = []
    for number, told in zip(numbers, polynomials):
        found = summed(found, multiplied(told, number))
    return found


def differences_of(values):
    """The first of the values, the first difference of neighbours, the first difference of these, and so on."""
    found = []
    left = values
    while len(left) > 0:
        found.append(left[0])
        left = [two - one for one, two in zip(left, left[1:])]
    return found


def _times_sum(numbers, beside, by):
    """The polynomial times the sum of the number beside and by times n."""
    return summed(multiplied(numbers, beside), [Ratio(0)] + multiplied(numbers, by))
