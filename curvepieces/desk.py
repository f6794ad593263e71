"""A desk: what is kept under names, claims under labels, deeds that can be taken back; trials."""

from curvepieces.answers import answer_of
from curvepieces.claims import contrary, is_paper_of
from curvepieces.commands import is_command, is_deed, is_name
from curvepieces.deeds import given_for, shelf_after
from curvepieces.errors import CommandFailed, CurveError, InvalidCommand, InvalidLines, InvalidPaper, LimitError
from curvepieces.errors import MissingError, NothingToRedo, NothingToUndo, StateError, TooMany, UnknownLabel
from curvepieces.errors import UnknownName
from curvepieces.kinds import copied, is_list
from curvepieces.shelves import changed_states, empty_shelf, kind_of, noted_claim, thing_of

DEEDS_MOST = 300


class Book:
    """All of a desk at one time: the shelf, deeds that can be taken back, deeds that were taken back, papers.

    Of each deed there is its line and the shelf ahead of it, of each one that was taken back the shelf behind it. By
    its label a paper has the words of the claim, whether it is of the contrary, and what it is. A book never changes.
    """

    def __init__(self, shelf, done, undone, papers):
        self.shelf = shelf
        self.done = done
        self.undone = undone
        self.papers = papers


def _turned(book, command):
    """(book, answer): the book behind the command, the same one where nothing changes."""
    if not is_command(command):
        raise InvalidCommand(command)
    if command == "undo":
        return _undone(book)
    if command == "redo":
        return _redone(book)
    given = given_for(book.shelf, command)
    if not is_deed(command):
        return book, answer_of(book.shelf, command, given)
    shelf = shelf_after(book.shelf, command, given)
    if len(book.done) >= DEEDS_MOST:
        raise TooMany("deeds", DEEDS_MOST)
    return Book(shelf, book.done + [(command, book.shelf)], [], book.papers), changed_states(book.shelf, shelf)


def _undone(book):
    """As _turned, the last deed taken back."""
    if len(book.done) == 0:
        raise NothingToUndo()
    command, shelf = book.done[-1]
    return Book(shelf, book.done[:-1], book.undone + [(command, book.shelf)], book.papers), command


def _redone(book):
    """As _turned, the deed that was taken back last done again."""
    if len(book.undone) == 0:
        raise NothingToRedo()
    command, shelf = book.undone[-1]
    return Book(shelf, book.done + [(command, book.shelf)], book.undone[:-1], book.papers), command


def _turned_by_all(book, commands):
    """(book, answers): the book behind all commands; CommandFailed if one fails."""
    answers = []
    for at, command in enumerate(commands):
        try:
            book, answer = _turned(book, command)
        except (CurveError, MissingError, StateError, LimitError) as error:
            raise CommandFailed(at) from error
        answers.append(answer)
    return book, answers


class Desk:
    """Things under names, claims under labels; commands change it and answer."""

    def __init__(self):
        self.book = Book(empty_shelf(), [], [], {})

    @property
    def names(self):
        """The sorted names under which something is kept."""
        return sorted(list(self.book.shelf.things))

    @property
    def labels(self):
        """The sorted labels under which claims are noted."""
        return sorted(list(self.book.shelf.noted))

    def __len__(self):
        return len(self.book.done)

    def __getitem__(self, at):
        if not is_name(at):
            raise UnknownName(at)
        return thing_of(self.book.shelf, at, kind_of(self.book.shelf, at))

    def __contains__(self, x):
        return is_name(x) and x in self.book.shelf.things

    def __iter__(self):
        raise TypeError("a desk is not iterated over")

    def __call__(self, command):
        return self.do(command)

    def claim_of(self, label):
        """The claim under the label, with what is kept now; None while its state is gone."""
        self.check_label(label)
        return noted_claim(self.book.shelf, label)

    def check_label(self, label):
        """UnknownLabel unless a claim is noted under the label."""
        if not is_name(label) or label not in self.book.shelf.noted:
            raise UnknownLabel(label)

    def do(self, command):
        """The answer to the command."""
        self.book, answer = _turned(self.book, command)
        return answer

    def do_all(self, *commands):
        """The answers to all commands, which have an effect only if none fails."""
        self.book, answers = _turned_by_all(self.book, commands)
        return answers

    def attempt(self, *commands):
        """The answers that do_all would give; nothing is changed."""
        _, answers = _turned_by_all(self.book, commands)
        return answers

    def attach(self, label, paper):
        """A paper of the claim under the label, or of its contrary, is kept."""
        claim = self.claim_of(label)
        if claim is None:
            raise InvalidPaper(paper)
        is_own = is_paper_of(claim, paper)
        if not is_own and not is_paper_of(contrary(claim), paper):
            raise InvalidPaper(paper)
        book = self.book
        papers = dict(book.papers)
        papers[label] = (book.shelf.noted[label], is_own, copied(paper))
        self.book = Book(book.shelf, book.done, book.undone, papers)

    def fits(self, label):
        """Whether a paper is kept with the label, attached to a claim of the same words, and still is a paper."""
        claim = self.claim_of(label)
        if claim is None or label not in self.book.papers:
            return False
        told, is_own, paper = self.book.papers[label]
        if told != self.book.shelf.noted[label]:
            return False
        return is_paper_of(claim if is_own else contrary(claim), paper)

    def lines(self):
        """The lines of the deeds that are not taken back."""
        return [line for line, _ in self.book.done]

    def copy(self):
        """A desk with all that is kept here, that goes on by itself."""
        desk = Desk()
        desk.book = self.book
        return desk

    @classmethod
    def again(cls, lines):
        """A desk that has done the deeds of the lines."""
        if not is_list(lines):
            raise InvalidLines(None)
        for at, line in enumerate(lines):
            if not is_deed(line):
                raise InvalidLines(at)
        desk = cls()
        desk.do_all(*lines)
        return desk


class Trial:
    """A block behind which all of a desk is as it was ahead."""

    def __init__(self, desk):
        self.desk = desk
        self.book = desk.book

    def __enter__(self):
        self.book = self.desk.book
        return self.desk

    def __exit__(self, kind, value, trace):
        desk = self.desk
        desk.book = self.book


def tried(desk, action):
    """What the action returns for the desk; behind it all of the desk is as it was."""
    with Trial(desk) as held:
        return action(held)
