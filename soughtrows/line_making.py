"""Lines that deeds make."""

from soughtrows.lines import Line, plus, put, times
from soughtrows.makers import differences, sums


def made_line(word, parts):
    """The line that a deed with this word makes of its parts."""
    if word == "line":
        return Line(*parts)
    if word == "sums":
        return sums()
    if word == "steps":
        return differences(*parts)
    if word == "plus":
        return plus(*parts)
    if word == "times":
        return times(*parts)
    return put(*parts)
