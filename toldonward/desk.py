"""Desks: a program that is edited, under several rules, with the faults that are watched."""

from toldonward.books import Book
from toldonward.bounds import check_book_bounds
from toldonward.errors import LimitExceeded, NothingToRedo, NothingToUndo
from toldonward.judge import KINDS, check_kind


class Desk:
    """A program, a list of rules and the kinds of faults that are watched."""

    def __init__(self, program, rules, *, batches=True, most=200, limit=2000):
        check_book_bounds(most, limit)
        self._program = program
        self._rules = tuple(rules)
        self._batches = batches
        self._most = most
        self._limit = limit
        self._watched = ()
        # The programs to which undo and redo lead, the next one last.
        self._earlier = []
        self._later = []

    @property
    def current(self):
        return self._program

    @property
    def watched(self):
        return self._watched

    def put_program(self, program):
        """Replace the program by another one."""
        self._earlier.append(self._program)
        self._later = []
        self._program = program

    def __ior__(self, other):
        check_kind(other)
        self._watched = tuple([kind for kind in KINDS if kind == other or kind in self._watched])
        return self

    def __getitem__(self, at):
        return self._program.row_at(at)

    def __setitem__(self, at, worth):
        self.put_program(self._program.with_row(at, worth))

    def __iter__(self):
        raise TypeError("a desk is not iterated over")

    def __len__(self):
        return len(self._earlier)

    def undo(self):
        """Take back the last edit."""
        if len(self._earlier) == 0:
            raise NothingToUndo()
        self._later.append(self._program)
        self._program = self._earlier.pop()

    def redo(self):
        """Do the edit again that was undone last."""
        if len(self._later) == 0:
            raise NothingToRedo()
        self._earlier.append(self._program)
        self._program = self._later.pop()

    def verdicts(self):
        """For each rule the verdict of the program, with the watched kinds alone; None beyond the limit."""
        return self._verdicts_of(self._program)

    def attempt(self, edits):
        """What verdicts() would return behind the edits, pairs of a path and a row; the desk stays as it is."""
        program = self._program
        for path, row in edits:
            program = program.with_row(path, row)
        return self._verdicts_of(program)

    def _verdicts_of(self, program):
        return [self._verdict_under(program, rule) for rule in self._rules]

    def _verdict_under(self, program, rule):
        try:
            book = Book(program, rule, batches=self._batches, most=self._most, limit=self._limit)
        except LimitExceeded:
            return None
        return book.verdict().only(self._watched)
