"""Blends that say what is wanted."""

from soughtrows.books import saying_of
from soughtrows.joining import joined
from soughtrows.lines import instance, plain_values
from soughtrows.reducing import Span, columns_of, solved, whole_row
from soughtrows.wholes import shell


def blend_that_says(book, answers, values, number, is_far):
    """A blend of the book that says just this, which has to follow from the answers' conditions.

    Far leads need less instances. But if no filling keeps the book they may leave another number than the told one."""
    goal = answers.row(values, number)
    blend = _mixed(answers, _used_instances(book, answers, goal), goal)
    found, _ = saying_of(book, blend)
    left = values + [(function, whole, -worth) for function, whole, worth in found]
    blend.extend(_leads(answers, plain_values(left), is_far))
    pairs = [((position, *place), by) for by, position, place in blend]
    return [(by, key[0], list(key[1:])) for key, by in joined(pairs)]


def _used_instances(book, answers, goal):
    """Tuples (position, place, row) of instances, free of one another, of whose rows the goal is made.

    Small places come first, as their values are soon led to the windows."""
    wanted, span, found = whole_row(goal), Span(), []
    greatest = 0
    while not span.makes(wanted):
        for position, line in enumerate(book.lines()):
            for place in shell(line.letters, greatest):
                values, number = instance(line, place)
                row = answers.row(values, number)
                if span.grow(whole_row(row)):
                    found.append((position, place, row))
        greatest = greatest + 1
    return found


def _mixed(answers, used, goal):
    """The blend of the instances whose rows add up to the goal."""
    columns = columns_of([row for _, _, row in used], answers.wide)
    numbers = solved(columns, goal, len(used))
    return [(number, position, place) for number, (position, place, _) in zip(numbers, used) if number.sign != 0]


def _leads(answers, values, is_far):
    """A blend that says these values, which cancel one another as soon as all are led to the windows."""
    found = []
    for function, window in enumerate(answers.windows):
        left = {whole: worth for told, whole, worth in values if told == function}
        whole = _farthest(left, window.width())
        while whole is not None:
            blend, taken = window.leading(whole, left[whole], is_far)
            found.extend(blend)
            less = [(told, -number) for told, number in taken]
            left = {told: number for told, number in joined(list(left.items()) + less)}
            whole = _farthest(left, window.width())
    return found


def _farthest(values, wide):
    """The greatest whole number, if the window from 0 on, so wide, has it not; else the least, likewise; or None."""
    # So each whole number is led at most once: what leads it stands between it and the window.
    for whole in [max(list(values), default=0), min(list(values), default=0)]:
        if not 0 <= whole < wide:
            return whole
    return None
