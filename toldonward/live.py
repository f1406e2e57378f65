"""Live programs with their histories, and packs of writes."""

from toldonward.bounds import check_most
from toldonward.errors import InvalidStanding, InvalidStart, NothingToUndo, UnknownCell, UnknownWord
from toldonward.spreading import Step, begin, step
from toldonward.standings import is_standing


class Pack:
    """Writes that are collected for a batch."""

    def __init__(self, program):
        self.program = program
        self.collected = {}

    def __setitem__(self, at, worth):
        check_write(self.program, at, worth)
        self.collected[at] = worth

    def __len__(self):
        return len(self.collected)

    def __contains__(self, x):
        # A value that is no key could not be looked up in the dict.
        return x in list(self.collected)

    def writes(self):
        """The writes, in the order in which the sources were first set."""
        return tuple(self.collected.items())


class Live:
    """A program under a rule with its history."""

    def __init__(self, program, rule, words=None, *, most=200, standing=None):
        check_most(most)
        if standing is None:
            self._first = begin(program, rule, words, most=most)
        else:
            self._first = step_in_standing(program, rule, words, standing)
        self.program = program
        self.rule = rule
        self._bound = most
        self._steps = []

    @property
    def bound(self):
        return self._bound

    def set_bound(self, value):
        """Set the bound on the runs of effects in one deed."""
        check_most(value)
        self._bound = value

    def write(self, source, word):
        """Write the word to the source; returns what was said."""
        check_write(self.program, source, word)
        return self.perform(("write", source, word))

    def __setitem__(self, at, worth):
        self.write(at, worth)

    def write_pack(self, pack):
        """Do the batch of the pack's writes; returns what was said."""
        return self.perform(("batch", pack.writes()))

    def read(self, cell):
        """The word that a read of the cell from outside tells."""
        if cell not in self.program.cells():
            raise UnknownCell(cell)
        self.perform(("read", cell))
        return self._latest().told

    def perform(self, deed):
        """Do the deed; returns what was said."""
        behind = step(self.program, self.rule, self.standing(), deed, most=self._bound)
        self._steps.append(behind)
        return list(behind.log)

    def _latest(self):
        return self._steps[-1] if self._steps else self._first

    def full_log(self):
        """What was said since the history began."""
        said = list(self._first.log)
        for each in self._steps:
            said.extend(each.log)
        return said

    def standing(self):
        return self._latest().after

    def last_events(self):
        """The events of the last deed, or of the start if there is none."""
        return self._latest().events

    def deeds_done(self):
        return [each.deed for each in self._steps]

    def __len__(self):
        return len(self._steps)

    def fork(self):
        """A live object of its own with the same history."""
        other = Live(self.program, self.rule, most=self._bound, standing=self._first.after)
        other._first = self._first
        other._steps = list(self._steps)
        return other

    def undo(self):
        """Take the last deed back; returns it."""
        if len(self._steps) == 0:
            raise NothingToUndo()
        return self._steps.pop().deed


def check_write(program, source, word):
    """Raise UnknownCell or UnknownWord unless the word may be written to the source."""
    if source not in program.sources:
        raise UnknownCell(source)
    if word not in program.words:
        raise UnknownWord(word)


def step_in_standing(program, rule, words, standing):
    """A Step in which nothing happens, for a history that begins in the standing."""
    if not is_standing(program, rule, standing):
        raise InvalidStanding()
    if words is not None:
        raise InvalidStart(words)
    return Step(None, None, standing, None, (), (), ())
