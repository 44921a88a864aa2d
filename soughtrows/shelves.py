"""What a desk keeps and what it has noted, as deeds change it."""

from soughtrows.claims import copied, is_claim, is_true
from soughtrows.errors import LabelTaken, LimitError, NameTaken, StateError, UnknownLabel, UnknownName

GONE = "gone"
THINGS = ("LINE", "BOOK", "COURSE", "SPOTS", "VALUES", "NAME")
LISTED = {"LINES": "LINE", "FILLING": "COURSE"}


class Shelf:
    """Things under names, and claims under labels with their states. It never changes: deeds make other ones.

    A thing is a tuple of its kind, as commands have it, and itself; a note a tuple of a claim's words, and of what
    these are and tell."""

    def __init__(self, things, notes, states):
        self.things = things
        self.notes = notes
        self.states = states

    def with_thing(self, name, kind, thing):
        return self._changed({**self.things, name: (kind, thing)}, name)

    def without_thing(self, name):
        return self._changed({told: self.things[told] for told in self.things if told != name}, name)

    def _changed(self, things, name):
        """With these things, which may differ from those here under the name alone."""
        states = {}
        for label, (claimed, kinds, told) in self.notes.items():
            states[label] = _state(things, kinds, told) if _is_about(claimed, name) else self.states[label]
        return Shelf(things, self.notes, states)

    def with_note(self, label, note, state):
        return Shelf(self.things, {**self.notes, label: note}, {**self.states, label: state})

    def without_note(self, label):
        left = [told for told in self.notes if told != label]
        return Shelf(self.things, {told: self.notes[told] for told in left}, {told: self.states[told] for told in left})

    def meant(self, kinds, told):
        """What the words of a command tell, with things in the place of their names."""
        return _found(self.things, self.notes, kinds, told)

    def claim(self, label):
        """The claim with what is kept now, None while its state is gone."""
        if self.states[label] == GONE:
            return None
        _, kinds, told = self.notes[label]
        return tuple(self.meant(kinds, told))


def told_states(states):
    """Labels with their states, in the words of an answer."""
    return ", ".join([f"{label} {states[label]}" for label in sorted(list(states))]) if len(states) > 0 else "-"


def state_word(is_so):
    return "true" if is_so else "false"


def _state(things, kinds, told):
    """The state of a claim with these words."""
    try:
        claim = tuple(_found(things, {}, kinds, told))
        return state_word(is_true(claim)) if is_claim(claim) else GONE
    except (UnknownName, StateError, LimitError):
        return GONE


def _is_about(claimed, name):
    return name in [part for word in claimed.split(" ") for part in word.split(",")]


def _found(things, notes, kinds, told):
    """What the words tell, with things in the place of their names, and what stands under NAME with its kind."""
    found, last = [], None
    for kind, value in zip(kinds, told):
        # OTHER is of the kind of the thing ahead of it, whatever that was asked for as.
        wanted = last if kind == "OTHER" else kind
        if wanted in THINGS:
            last, thing = _thing(things, wanted, value)
            found.append((last, thing) if kind == "NAME" else copied(thing))
        elif kind in LISTED:
            found.append([_thing(things, LISTED[kind], name)[1] for name in value])
        else:
            _check_word(things, notes, kind, value)
            found.append(value)
    return found


def _thing(things, kind, name):
    """The tuple of the kind and the thing under the name, which has to be of the told kind."""
    if name not in things or kind not in ("NAME", things[name][0]):
        raise UnknownName(name)
    return things[name]


def _check_word(things, notes, kind, value):
    if kind == "NEW" and value in things:
        raise NameTaken(value)
    if kind == "NOTE" and value in notes:
        raise LabelTaken(value)
    if kind == "LABEL" and value not in notes:
        raise UnknownLabel(value)
