"""A desk on which lots are kept under names and claims noted under labels, and trials of it."""

from suretexts.basics import is_listed
from suretexts.claims import contrary, is_paper_of
from suretexts.commands import is_deed
from suretexts.errors import (
    CommandFailed, InvalidDeeds, InvalidPaper, LimitError, MissingError, PieceError, StateError, UnknownLabel,
    UnknownName)
from suretexts.pages import answered, empty_page, page_with_paper
from suretexts.shelves import claim_on


def _copied(paper):
    """The paper with lists of its own."""
    if isinstance(paper, list):
        return [_copied(part) for part in paper]
    if isinstance(paper, tuple):
        return tuple([_copied(part) for part in paper])
    return paper


def _is_in(table, value):
    """Whether any value is a string in the table."""
    return isinstance(value, str) and value in table


class Desk:
    """Lots under names, claims under labels, and the deeds that made them."""

    def __init__(self):
        self._page = empty_page()

    def __len__(self):
        return len(self._page.done)

    def __contains__(self, x):
        return _is_in(self._page.shelf.lots, x)

    def __getitem__(self, at):
        if not _is_in(self._page.shelf.lots, at):
            raise UnknownName(at)
        return self._page.shelf.lots[at]

    def __iter__(self):
        raise TypeError("a desk is not iterated over")

    def __call__(self, command):
        return self.do(command)

    @property
    def names(self):
        """The sorted list of the names."""
        return sorted(self._page.shelf.lots)

    @property
    def labels(self):
        """The sorted list of the labels."""
        return sorted(self._page.shelf.notes)

    def claim_of(self, label):
        """The claim under the label with what is kept now, or None while it is gone."""
        if not _is_in(self._page.shelf.notes, label):
            raise UnknownLabel(label)
        return claim_on(self._page.shelf, label)

    def do(self, command):
        """Do a command, and tell the answer."""
        self._page, answer = answered(self._page, command)
        return answer

    def do_all(self, *commands):
        """Do all commands, or none if one fails, and tell the list of the answers."""
        held = self._page
        answers = []
        for at, command in enumerate(commands):
            try:
                answers.append(self.do(command))
            except (PieceError, MissingError, StateError, LimitError) as e:
                self._page = held
                raise CommandFailed(at) from e
        return answers

    def attempt(self, *commands):
        """The list of the answers to all commands, behind which all is as before."""
        held = self._page
        answers = self.do_all(*commands)
        self._page = held
        return answers

    def attach(self, label, paper):
        """Keep a paper of the claim under the label, or of its contrary."""
        claim = self.claim_of(label)
        if claim is None:
            raise InvalidPaper(paper)
        is_for = is_paper_of(claim, paper)
        if not is_for and not is_paper_of(contrary(claim), paper):
            raise InvalidPaper(paper)
        words = self._page.shelf.notes[label][0]
        self._page = page_with_paper(self._page, label, (words, is_for, _copied(paper)))

    def fits(self, label):
        """Whether the paper kept with the label is one as things are now."""
        claim = self.claim_of(label)
        if claim is None or label not in self._page.papers:
            return False
        words, is_for, paper = self._page.papers[label]
        if words != self._page.shelf.notes[label][0]:
            return False
        return is_paper_of(claim if is_for else contrary(claim), paper)

    def lines(self):
        """The list of the lines of the deeds that are not taken back."""
        return [line for line, _ in self._page.done]

    def copy(self):
        """A desk that goes on by itself, with all of it."""
        other = Desk()
        other._page = self._page
        return other

    @classmethod
    def again(cls, lines):
        """A desk that has done these deeds."""
        if not is_listed(lines):
            raise InvalidDeeds(None)
        for at, line in enumerate(lines):
            if not is_deed(line):
                raise InvalidDeeds(at)
        desk = cls()
        desk.do_all(*lines)
        return desk


class Trial:
    """A block behind which all of a desk is as it was ahead of it."""

    def __init__(self, desk):
        self._desk = desk
        self._held = None

    def __enter__(self):
        self._held = self._desk._page
        return self._desk

    def __exit__(self, kind, value, trace):
        desk = self._desk
        desk._page = self._held


def tried(desk, action):
    """What the function tells of the desk within a trial of it."""
    with Trial(desk) as held:
        return action(held)
