"""Whole numbers: what makes their greatest divisor, numbers of lots, and places of counts."""


def divisor_mix(numbers):
    """INTEGERS, one for each of these, that as their multiples add up to the greatest number that goes into all."""
    found, made = 0, []
    for number in numbers:
        found, many, last = _both(found, number)
        made = [many * one for one in made] + [last]
    return made


def _both(first, second):
    """The greatest number that goes into both, and how many times each of them makes it."""
    one, two = (first, 1, 0), (second, 0, 1)
    while two[0] != 0:
        times = one[0] // two[0]
        one, two = two, tuple([left - times * right for left, right in zip(one, two)])
    if one[0] < 0:
        return tuple([-number for number in one])
    return one


def lots_of(things, many):
    """How many lots of 0, 1, 2 .. out of so many things there are, a list of so many INTEGERS; below 0 things, too."""
    found = [1]
    for size in range(1, many):
        found.append(found[-1] * (things - size + 1) // size)
    return found[:many]


def moebius(whole):
    """0 if a square above 1 goes into the whole number, else 1 or -1, as its primes are even or odd in number."""
    found = 1
    for number in range(2, whole + 1):
        if whole % number == 0:
            # All lesser primes are divided out, so this is one.
            whole = whole // number
            found = -found
            if whole % number == 0:
                return 0
    return found


def box(letters, many):
    """All lists of as many numbers from 0 to many - 1 as there are letters, sorted."""
    found = [[]]
    for _ in range(letters):
        found = [told + [number] for told in found for number in range(many)]
    return found


def shell(letters, greatest):
    """The lists of as many COUNTS as there are letters whose greatest one is this; of no letters, it is 0."""
    return [told for told in box(letters, greatest + 1) if max(told, default=0) == greatest]


def counts_within(letters, most):
    """All lists of as many COUNTS as there are letters that add up to at most this, sorted."""
    found = [[]]
    for _ in range(letters):
        found = [told + [number] for told in found for number in range(most - sum(told) + 1)]
    return found


def counts_of(letters, total):
    """All lists of as many COUNTS as there are letters that add up to just this, sorted."""
    return [told for told in counts_within(letters, total) if sum(told) == total]
