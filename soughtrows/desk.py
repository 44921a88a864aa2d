"""A desk, which keeps things under names, and notes claims about them."""

from soughtrows.asking import answer
from soughtrows.basics import is_list
from soughtrows.claims import contrary, copied, is_paper_of
from soughtrows.commands import is_deed, parsed
from soughtrows.deeds import shelf_after
from soughtrows.errors import (
    BookError, CommandFailed, InvalidCommand, InvalidDeeds, InvalidPaper, LimitError, MissingError, NothingToRedo,
    NothingToUndo, StateError, TooMany, UnknownLabel, UnknownName,
)
from soughtrows.shelves import Shelf, told_states

MOST_DEEDS = 300


class Page:
    """All of a desk at one time. It never changes: so a desk comes back to it by turning to it again.

    The deeds that were done stand with the shelf ahead of each, those that were taken back with the one behind."""

    def __init__(self, shelf, papers, done, undone):
        self.shelf = shelf
        self.papers = papers
        self.done = done
        self.undone = undone


class Desk:
    """Things under names, claims about them under labels, and papers for these."""

    def __init__(self):
        self.page = Page(Shelf({}, {}, {}), {}, [], [])

    @property
    def names(self):
        return sorted(list(self.page.shelf.things))

    @property
    def labels(self):
        return sorted(list(self.page.shelf.notes))

    def __len__(self):
        return len(self.page.done)

    def __getitem__(self, at):
        if at not in self:
            raise UnknownName(at)
        return copied(self.page.shelf.things[at][1])

    def __contains__(self, x):
        return isinstance(x, str) and x in self.page.shelf.things

    def __iter__(self):
        raise TypeError("a desk is not iterated over")

    def claim_of(self, label):
        """The claim with what is kept now, None while its state is gone."""
        self._check_label(label)
        return self.page.shelf.claim(label)

    def do(self, command):
        """The answer to a command."""
        found = parsed(command)
        if found is None:
            raise InvalidCommand(command)
        word, kinds, told = found
        if is_deed(command):
            return self._deed(command, kinds, told)
        if word == "undo":
            return self._undo()
        if word == "redo":
            return self._redo()
        return answer(self.page.shelf, word, self.page.shelf.meant(kinds, told))

    def __call__(self, command):
        return self.do(command)

    def do_all(self, *commands):
        """The answers to all of the commands; if one fails, none has an effect."""
        before, found = self.page, []
        for position, command in enumerate(commands):
            try:
                found.append(self.do(command))
            except (BookError, MissingError, StateError, LimitError) as error:
                self.page = before
                raise CommandFailed(position) from error
        return found

    def attempt(self, *commands):
        """As do_all, and all is as before."""
        before = self.page
        try:
            return self.do_all(*commands)
        finally:
            self.page = before

    def attach(self, label, paper):
        """Keeps a paper of the label's claim, or of its contrary, with the label."""
        claim = self.claim_of(label)
        if claim is None:
            raise InvalidPaper(paper)
        is_for = is_paper_of(claim, paper)
        if not is_for and not is_paper_of(contrary(claim), paper):
            raise InvalidPaper(paper)
        page = self.page
        claimed = page.shelf.notes[label][0]
        papers = {**page.papers, label: (claimed, is_for, copied(paper))}
        self.page = Page(page.shelf, papers, page.done, page.undone)

    def fits(self, label):
        """Whether the paper that is kept with the label is still a paper of what it was kept for."""
        claim = self.claim_of(label)
        if claim is None or label not in self.page.papers:
            return False
        claimed, is_for, paper = self.page.papers[label]
        if claimed != self.page.shelf.notes[label][0]:
            return False
        return is_paper_of(claim if is_for else contrary(claim), paper)

    def lines(self):
        """The lines of the deeds that are not taken back."""
        return [line for line, _ in self.page.done]

    def copy(self):
        """A desk that goes on by itself, with all that is here."""
        found = Desk()
        found.page = self.page
        return found

    @classmethod
    def again(cls, lines):
        """A desk that has done these deeds."""
        if not is_list(lines):
            raise InvalidDeeds(None)
        for position, line in enumerate(lines):
            if not is_deed(line):
                raise InvalidDeeds(position)
        desk = cls()
        desk.do_all(*lines)
        return desk

    def _check_label(self, label):
        if not isinstance(label, str) or label not in self.page.shelf.notes:
            raise UnknownLabel(label)

    def _deed(self, command, kinds, told):
        page = self.page
        shelf = shelf_after(page.shelf, command, kinds, told)
        if len(page.done) == MOST_DEEDS:
            raise TooMany("deeds", MOST_DEEDS)
        self.page = Page(shelf, page.papers, page.done + [(command, page.shelf)], [])
        states = shelf.states
        return told_states({
            label: states[label] for label in states if page.shelf.states.get(label) != states[label]
        })

    def _undo(self):
        page = self.page
        if len(page.done) == 0:
            raise NothingToUndo()
        line, shelf = page.done[-1]
        self.page = Page(shelf, page.papers, page.done[:-1], page.undone + [(line, page.shelf)])
        return line

    def _redo(self):
        page = self.page
        if len(page.undone) == 0:
            raise NothingToRedo()
        line, shelf = page.undone[-1]
        self.page = Page(shelf, page.papers, page.done + [(line, page.shelf)], page.undone[:-1])
        return line


class Trial:
    """A block behind which all of the desk is as it was ahead."""

    def __init__(self, desk):
        self.desk = desk
        self.page = desk.page

    def __enter__(self):
        self.page = self.desk.page
        return self.desk

    def __exit__(self, kind, value, trace):
        desk = self.desk
        desk.page = self.page


def tried(desk, action):
    """What the action returns for the desk, which is then as it was."""
    with Trial(desk) as held:
        return action(held)
