"""Values read from their written forms."""

from soughtrows.errors import InvalidText
from soughtrows.takers import begun


def read(text):
    """The tuple of the sort and the value that has this written form."""
    if not isinstance(text, str):
        raise InvalidText(0)
    # What stands behind the last line feed is a line without one, or nothing.
    pieces = text.split("\n")
    rows, left = pieces[:-1], pieces[-1]
    taker = begun(rows[0].split(" ")) if len(rows) > 0 else None
    if taker is None:
        raise InvalidText(1)
    for at, row in enumerate(rows[1:]):
        if not taker.takes(row.split(" ")):
            raise InvalidText(at + 2)
    if left != "" or taker.lacks():
        raise InvalidText(len(rows) + 1)
    return rows[0].split(" ")[0], taker.told()
