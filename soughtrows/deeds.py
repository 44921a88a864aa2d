"""What deeds make of a shelf."""

from soughtrows.books import Book, renamed, with_line, without_line
from soughtrows.claims import is_claim, is_true
from soughtrows.courses import Course, led, plus
from soughtrows.errors import InvalidClaim, TooMany
from soughtrows.line_making import made_line
from soughtrows.shelves import state_word

MOST_NAMES = 12
MOST_LABELS = 12


def shelf_after(shelf, command, kinds, told):
    """The shelf after a deed; of the words behind its first one what they are, and what they tell."""
    word, first = command.split(" ")[0], told[0]
    found = shelf.meant(kinds, told)
    if word == "claim":
        claimed = " ".join(command.split(" ")[2:])
        return _noted(shelf, first, (claimed, kinds[1:], told[1:]), tuple(found[1:]))
    if word == "forget":
        return shelf.without_note(first)
    if word == "drop":
        return shelf.without_thing(first)
    if word in ("add", "strike", "exchange"):
        return shelf.with_thing(first, "BOOK", _changed_book(word, found))
    kind, thing = _made(word, found[1:])
    if len(shelf.things) == MOST_NAMES:
        raise TooMany("names", MOST_NAMES)
    return shelf.with_thing(first, kind, thing)


def _noted(shelf, label, note, claim):
    if not is_claim(claim):
        raise InvalidClaim(claim)
    state = state_word(is_true(claim))
    if len(shelf.notes) == MOST_LABELS:
        raise TooMany("labels", MOST_LABELS)
    return shelf.with_note(label, note, state)


def _changed_book(word, parts):
    if word == "add":
        return with_line(*parts)
    return without_line(*parts) if word == "strike" else renamed(*parts)


def _made(word, parts):
    """The kind of what a deed makes of its parts, and itself."""
    if word == "book":
        return "BOOK", Book(*parts)
    if word in ("course", "both", "led"):
        return "COURSE", _made_course(word, parts)
    if word == "spots":
        return "SPOTS", parts[0]
    if word == "values":
        return "VALUES", parts[0]
    return parts[0] if word == "copy" else ("LINE", made_line(word, parts))


def _made_course(word, parts):
    if word == "course":
        return Course(*parts)
    return plus(*parts) if word == "both" else led(*parts)
