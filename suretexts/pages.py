"""Pages of desks: a shelf, with the deeds that led to it, those taken back, and papers."""

from suretexts.answers import answer_of
from suretexts.commands import DEEDS, handed, word_of
from suretexts.errors import InvalidCommand, NothingToRedo, NothingToUndo, TooMany
from suretexts.shelves import Shelf, changes_told, need_in_use, shelf_behind

MOST_DEEDS = 200


class Page:
    """All of a desk. A page is never changed: another one takes its place.

    The done deeds are tuples (line, shelf ahead of the deed), those taken back
    tuples (line, shelf behind it), the last one of both last. The papers are
    tuples (words of the claim, whether for the claim itself, paper) by labels.
    """

    def __init__(self, shelf, done, back, papers):
        self.shelf = shelf
        self.done = done
        self.back = back
        self.papers = papers


def empty_page():
    """The page of a desk at first."""
    return Page(Shelf({}, {}, {}), [], [], {})


def _behind_deed(page, line, values):
    """The tuple (page behind the deed, answer)."""
    shelf = shelf_behind(page.shelf, line, values)
    if len(page.done) == MOST_DEEDS:
        raise TooMany("deeds", MOST_DEEDS)
    behind = Page(shelf, page.done + [(line, page.shelf)], [], page.papers)
    return (behind, changes_told(shelf, page.shelf))


def _taken_back(page):
    """The tuple (page without the last deed, its line)."""
    if page.done == []:
        raise NothingToUndo()
    line, shelf = page.done[-1]
    return (Page(shelf, page.done[:-1], page.back + [(line, page.shelf)], page.papers), line)


def _done_again(page):
    """The tuple (page with the deed taken back last, its line)."""
    if page.back == []:
        raise NothingToRedo()
    line, shelf = page.back[-1]
    return (Page(shelf, page.done + [(line, page.shelf)], page.back[:-1], page.papers), line)


def answered(page, command):
    """The tuple (page behind the command, answer)."""
    parts = handed(command)
    if parts is None:
        raise InvalidCommand(command)
    need_in_use(page.shelf, parts)
    word = word_of(command)
    values = [value for _, value in parts]
    if word in DEEDS:
        return _behind_deed(page, command, values)
    if word == "undo":
        return _taken_back(page)
    if word == "redo":
        return _done_again(page)
    return (page, answer_of(page.shelf, word, values))


def page_with_paper(page, label, paper):
    """The page with the paper, a tuple as pages have it, kept with the label."""
    return Page(page.shelf, page.done, page.back, {**page.papers, label: paper})
