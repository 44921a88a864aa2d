"""Commands of a desk, by their words alone."""

from soughtrows.words import all_told, count_of, integer_of, number_of

MOST_SIGNS = 8
MOST_DIGITS = 30
MOST_NUMBER_DIGITS = 6
MOST_TOLD = 60
MOST_BOOK_NAMES = 6
MOST_FILLING_NAMES = 3
SMALL_LETTERS = "abcdefghijklmnopqrstuvwxyz"
DIGITS = "0123456789"

# What stands behind the words of the commands. NEW is a free name, NOTE a free label, SIDE a claim's word.
DEEDS = {
    "line": ("NEW", "COUNT", "TERMS", "REST"), "sums": ("NEW",), "steps": ("NEW", "COUNT", "COUNT"),
    "plus": ("NEW", "LINE", "OTHER"), "times": ("NEW", "LINE", "NUMBER"), "put": ("NEW", "LINE", "COUNT", "ARGUMENTS"),
    "book": ("NEW", "COUNT", "LINES"), "add": ("BOOK", "LINE"), "strike": ("BOOK", "COUNT"),
    "exchange": ("BOOK", "COUNTS"), "course": ("NEW", "PARTS"), "both": ("NEW", "COURSE", "OTHER"),
    "led": ("NEW", "COURSE", "INTEGER", "INTEGER"), "spots": ("NEW", "LOTS"), "values": ("NEW", "TOLDS"),
    "copy": ("NEW", "NAME"), "drop": ("NAME",), "forget": ("LABEL",),
}
CLAIMS = {
    "held": ("BOOK", "COUNT"), "loose": ("BOOK", "COUNT"), "kept": ("BOOK",), "nobody": ("BOOK",),
    "follows": ("BOOK", "LINE"), "breaks": ("BOOK", "LINE"), "keeps": ("BOOK", "FILLING"),
    "misses": ("BOOK", "FILLING"), "settles": ("BOOK", "SPOTS"), "open": ("BOOK", "SPOTS"),
}
OTHERS = {
    "undo": (), "redo": (), "state": ("LABEL",), "states": (), "claimed": ("LABEL",), "names": (), "show": ("NAME",),
    "same": ("NAME", "OTHER"), "says": ("LINE", "PLACES"), "worth": ("LINE", "FILLING", "PLACES"),
    "at": ("COURSE", "INTEGER"), "loose": ("BOOK",), "needless": ("BOOK",), "room": ("BOOK",), "dimension": ("BOOK",),
    "period": ("BOOK",), "degree": ("BOOK",), "alike": ("BOOK", "OTHER"),
    "forced": ("BOOK", "VALUES", "COUNT", "INTEGER"), "rank": ("BOOK", "SPOTS"), "free": ("BOOK", "SPOTS"),
}


def is_name(value):
    """Whether any value is a name, or a label."""
    if not isinstance(value, str) or not 1 <= len(value) <= MOST_SIGNS or value[0] not in SMALL_LETTERS:
        return False
    return all([sign in SMALL_LETTERS or sign in DIGITS for sign in value])


def is_command(value):
    """Whether any value is a command by its words alone."""
    return parsed(value) is not None


def is_deed(value):
    """Whether any value is a deed by its words alone."""
    found = parsed(value)
    return found is not None and (found[0] in DEEDS or found[0] == "claim")


def parsed(value):
    """The tuple of a command's word, and of what its further words are and tell; None for any other value."""
    if not isinstance(value, str):
        return None
    words = value.split(" ")
    word, rest = words[0], words[1:]
    kinds = _kinds_of(word, rest)
    if kinds is None or len(kinds) != len(rest):
        return None
    told = all_told([_told(kind, one) for kind, one in zip(kinds, rest)])
    return None if told is None else (word, kinds, told)


def _kinds_of(word, rest):
    """What the words behind the first one have to be, None if this is no word of a command."""
    if word == "claim" and len(rest) > 1 and rest[1] in CLAIMS:
        return ("NOTE", "SIDE") + CLAIMS[rest[1]]
    if word in DEEDS:
        return DEEDS[word]
    return OTHERS[word] if word in OTHERS else None


def _told(kind, word):
    """What the word tells as one of this kind, None if it is none."""
    if kind in TELLERS:
        teller = TELLERS[kind]
        return teller(word)
    # A claim's word was looked up already; whatever is left are names.
    return word if kind == "SIDE" else _name(word)


def _name(word):
    return word if is_name(word) else None


def _count(word):
    return _short(count_of(word))


def _integer(word):
    return _short(integer_of(word))


def _short(whole):
    """The INTEGER, None if it has too many digits."""
    return None if whole is None or len(str(abs(whole))) > MOST_DIGITS else whole


def _number(word):
    found = number_of(word)
    if found is None or len(str(abs(found.top))) > MOST_NUMBER_DIGITS or len(str(found.bottom)) > MOST_NUMBER_DIGITS:
        return None
    return found


def _counts(word):
    return _listed(word, _count)


def _places(word):
    return _listed(word, _integer)


def _numbers(word):
    return _listed(word, _number)


def _arguments(word):
    return _rows(word, _places)


def _terms(word):
    return _rows(word, _term)


def _term(word):
    return _fields(word, [_number, _count, _places])


def _rest(word):
    return _rows(word, _piece)


def _piece(word):
    return _fields(word, [_number, _counts])


def _lots(word):
    return _rows(word, _lot)


def _lot(word):
    return _fields(word, [_count, _integer])


def _tolds(word):
    return _rows(word, _value)


def _value(word):
    return _fields(word, [_count, _integer, _number])


def _parts(word):
    return _each(word.split(";"), _numbers, MOST_TOLD)


def _lines(word):
    return [] if word == "-" else _each(word.split(","), _name, MOST_BOOK_NAMES)


def _filling(word):
    return _each(word.split(","), _name, MOST_FILLING_NAMES)


def _listed(word, teller):
    return [] if word == "-" else _each(word.split(","), teller, MOST_TOLD)


def _rows(word, teller):
    return [] if word == "none" else _each(word.split(";"), teller, MOST_TOLD)


def _each(words, teller, most):
    """What each of the words tells, None if one tells nothing, or if there are more."""
    return None if len(words) > most else all_told([teller(word) for word in words])


def _fields(word, tellers):
    """The tuple of what the parts of the word tell."""
    words = word.split(":")
    if len(words) != len(tellers):
        return None
    found = all_told([teller(part) for teller, part in zip(tellers, words)])
    return None if found is None else tuple(found)


TELLERS = {
    "COUNT": _count, "INTEGER": _integer, "NUMBER": _number, "COUNTS": _counts, "PLACES": _places,
    "ARGUMENTS": _arguments, "TERMS": _terms, "REST": _rest, "LOTS": _lots, "TOLDS": _tolds, "PARTS": _parts,
    "LINES": _lines, "FILLING": _filling,
}
