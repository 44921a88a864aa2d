"""What counts as a whole number, and what as a list."""

from math import gcd


def is_integer(value):
    """Whether any value is an INTEGER."""
    # Python takes True and False for numbers; here they are none.
    return isinstance(value, int) and not isinstance(value, bool)


def is_count(value):
    """Whether any value is a COUNT."""
    return is_integer(value) and value >= 0


def is_position(many, value):
    """Whether any value is a position in a list of so many."""
    return is_count(value) and value < many


def is_list(value):
    """Whether any value may stand where a list is wanted."""
    return isinstance(value, (list, tuple))


def are_integers(value, many):
    """Whether any value is a list of so many INTEGERS."""
    return is_list(value) and len(value) == many and all([is_integer(number) for number in value])


def are_counts(value, many):
    """Whether any value is a list of so many COUNTS."""
    return is_list(value) and len(value) == many and all([is_count(number) for number in value])


def greatest_divisor(numbers):
    """The greatest number that goes into all these INTEGERS, 0 if all are 0."""
    found = 0
    for number in numbers:
        found = gcd(found, number)
    return found


def product_sum(one, two):
    """The sum of the products of the NUMBERS at the same places of two lists."""
    return sum([left * right for left, right in zip(one, two)])
