"""What has to be 0 so that sums of polynomials by remainders, of sums of letters, are 0 at every place.

Each term hangs on its direction w alone: by the worth t of w at the place, a polynomial by t's remainders. As a
polynomial in the letters the sum is 0 only if all its numbers are, and each of these is a sum of functions of the t's
remainders. Of such functions those of unlike true periods are free of one another, and those of one period, too,
unless their directions are multiples of one another by it. So there is no need to go through all places, which may be
very many."""

from math import comb, gcd, lcm

from soughtrows.directions import direction
from soughtrows.reducing import common_bottom, times_whole
from soughtrows.sums import power_product
from soughtrows.wholes import counts_of, moebius


def line_conditions(line, parts, times, wide):
    """Rows of INTEGERS; the unknowns that they lead to 0, with 1 beside them, are just those that keep the line.

    The parts of each function are so many times its power rows, in INTEGERS."""
    terms, rest = line.terms(), line.rest()
    many = common_bottom([told[0] for told in terms + rest])
    numbers = times_whole([told[0] for told in terms], many)
    whole = [(number, parts[term[1]], term[2]) for number, term in zip(numbers, terms)]
    besides = times_whole([told[0] for told in rest], many * times)
    pieces = [(number, powers) for number, (_, powers) in zip(besides, rest)]
    return conditions(line.letters, whole, pieces, wide)


def conditions(letters, terms, pieces, wide):
    """Rows of INTEGERS; what they lead to 0 makes the sum of the terms and the pieces 0 at every place.

    A term is a tuple of an INTEGER, the power rows of a function in INTEGERS, and an argument; a piece a tuple of an
    INTEGER, which counts for the last place of the rows, and its powers."""
    ways = _ways(letters, terms, wide)
    still = [term for term in terms if direction(letters, term[2]) is None]
    found = _even_rows(letters, ways, still, pieces, wide)
    greatest = max([_period(columns) for _, columns in ways], default=1)
    for period in range(2, greatest + 1):
        sharing = [(way, columns) for way, columns in ways if _period(columns) % period == 0]
        for group in _groups(sharing, period):
            found.extend(_group_rows(letters, group, period, wide))
    return [row for row in found if any(row)]


def _ways(letters, terms, wide):
    """For each direction the sum of its terms, told by t: tuples (direction, columns).

    The column of k has for each remainder of t the row that stands beside t ** k."""
    found = {}
    for number, parts, argument in terms:
        way = direction(letters, argument)
        if way is not None:
            by = [many // one for many, one in zip(argument, way) if one != 0][0]
            found.setdefault(tuple(way), []).append(_columns(number, parts, by, argument[letters], wide))
    return [(way, _summed_columns(told, wide)) for way, told in found.items()]


def _columns(number, parts, by, shift, wide):
    """A number times the function at by * t + shift, as columns."""
    period = len(parts) // gcd(len(parts), by)
    most = max([len(rows) for rows in parts])
    return [
        [_row_beside(number, parts[(by * left + shift) % len(parts)], by, shift, power, wide) for left in range(period)]
        for power in range(most)
    ]


def _row_beside(number, rows, by, shift, power, wide):
    """The row that stands beside t ** power if t -> by * t + shift is put into the sum of the rows times n ** k."""
    found = [0] * wide
    for _ in range(power):
        number = number * by
    for at in range(power, len(rows)):
        found = _plus(found, rows[at], number * comb(at, power))
        number = number * shift
    return found


def _summed_columns(told, wide):
    period, most = 1, 0
    for columns in told:
        period = lcm(period, _period(columns))
        most = max(most, len(columns))
    found = [[[0] * wide for _ in range(period)] for _ in range(most)]
    for columns in told:
        for power, column in enumerate(columns):
            for left in range(period):
                found[power][left] = _plus(found[power][left], column[left % len(column)], 1)
    return found


def _period(columns):
    return max([len(column) for column in columns], default=1)


def _even_rows(letters, ways, still, pieces, wide):
    """What of the sum does not hang on remainders: a row for each list of powers."""
    common, most = 1, max([sum(powers) for _, powers in pieces], default=0)
    for _, columns in ways:
        common = lcm(common, _period(columns))
        most = max(most, len(columns) - 1)
    found = []
    for total in range(most + 1):
        for powers in counts_of(letters, total):
            row = [0] * wide
            for way, columns in ways:
                if total < len(columns):
                    times = _many_orders(powers) * power_product(powers, way) * (common // len(columns[total]))
                    row = _plus(row, _total(columns[total], wide), times)
            for number, told in pieces:
                if list(told) == powers:
                    row[wide - 1] = row[wide - 1] + number * common
            if total == 0:
                row = _plus(row, _still_row(still, wide), common)
            found.append(row)
    return found


def _still_row(terms, wide):
    """The terms whose arguments are worth the same at all places, added up."""
    found = [0] * wide
    for number, parts, argument in terms:
        whole = argument[-1]
        for row in parts[whole % len(parts)]:
            found = _plus(found, row, number)
            number = number * whole
    return found


def _groups(ways, period):
    """Those that hang on the same remainders by the period: lists of tuples (direction, columns, times).

    The direction is so many times that of the first of its list, but for multiples of the period."""
    found = []
    for way, columns in ways:
        at, times = _place_among(found, way, period)
        if at == len(found):
            found.append([])
        found[at].append((way, columns, times))
    return found


def _place_among(groups, way, period):
    """The tuple of the place of the group to which the direction belongs, a new one if need be, and its times there."""
    for at, group in enumerate(groups):
        times = _times_by(way, group[0][0], period)
        if times is not None:
            return at, times
    return len(groups), 1


def _times_by(way, other, period):
    """How many times the other direction this one is, but for multiples of the period; None if it is not."""
    for times in range(1, period):
        if gcd(times, period) == 1 and all([(one - times * two) % period == 0 for one, two in zip(way, other)]):
            return times
    return None


def _group_rows(letters, group, period, wide):
    """What of the group's sum has just this period: rows for each list of powers and each remainder."""
    common = 1
    for _, columns, _ in group:
        common = lcm(common, _period(columns))
    found = []
    for total in range(max([len(columns) for _, columns, _ in group])):
        told = [
            (way, _of_period(columns[total], period, common, wide), times)
            for way, columns, times in group if total < len(columns)
        ]
        for weights in _weights(letters, [way for way, _, _ in told], total):
            for left in range(period):
                row = [0] * wide
                for weight, (_, column, times) in zip(weights, told):
                    row = _plus(row, column[times * left % period], weight)
                found.append(row)
    return found


def _weights(letters, ways, total):
    """For each list of powers with this sum what the directions have of it."""
    # A direction by itself is nowhere 0 in all powers: one row tells the same as all.
    if len(ways) == 1:
        return [[1]]
    return [[power_product(powers, way) for way in ways] for powers in counts_of(letters, total)]


def _of_period(column, period, common, wide):
    """What of a function of remainders has just this period, for each remainder by it, common times."""
    found = [[0] * wide for _ in range(period)]
    for size in range(1, period + 1):
        sign = moebius(period // size) if period % size == 0 else 0
        if sign != 0:
            for left in range(period):
                # The mean of all that stand at one remainder by a divisor is what has a period that goes into this.
                even = _total(column[left % size::size], wide)
                found[left] = _plus(found[left], even, sign * size * (common // len(column)))
    return found


def _total(rows, wide):
    found = [0] * wide
    for row in rows:
        found = _plus(found, row, 1)
    return found


def _plus(row, other, times):
    """The row, and so many times the other one, added."""
    if times == 0:
        return row
    return [one + times * two for one, two in zip(row, other)]


def _many_orders(powers):
    """In how many orders so many of each letter stand."""
    found, many = 1, 0
    for power in powers:
        many = many + power
        found = found * comb(many, power)
    return found
