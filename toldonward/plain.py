"""The plain machine: no derived cells are kept, and all that a run is told is true."""

from toldonward.bounds import check_most, check_pair_bounds
from toldonward.errors import InvalidDeed, TooManyRuns
from toldonward.sides import RuleSide, least_difference
from toldonward.standings import deeds, is_deed
from toldonward.truth import check_start, known_words, run_truly


class PlainMachine:
    """The plain machine amid a start or a deed; the notes of an effect that has never been run are None."""

    def __init__(self, program, words, notes, most):
        self.program = program
        self.most = most
        self.held = dict(zip(program.sources, words))
        self.notes = list(notes)
        self.waiting = []
        self.log = []
        self.runs = 0

    def words_now(self):
        return tuple([self.held[source] for source in self.program.sources])

    def true_now(self):
        """A dict with the true word of each cell."""
        return known_words(self.program, self.words_now())

    def at_rest(self):
        """The plain standing now."""
        return (self.words_now(), tuple(self.notes))

    def write_together(self, writes):
        """The writes, which are to different sources, take place as one change."""
        counting = [(source, word) for source, word in writes if self.held[source] != word]
        for source, word in counting:
            self.held[source] = word
        if counting:
            self.look_at_effects()

    def look_at_effects(self):
        """Run the effects that have never been run, and those whose notes are not true any more."""
        known = self.true_now()
        for place, (name, rows) in enumerate(self.program.effects):
            notes = self.notes[place]
            if notes is None or any([known[cell] != word for cell, word in notes]):
                if self.runs == self.most:
                    raise TooManyRuns(self.most)
                self.runs += 1
                parts = run_truly(self.program, known, rows).parts()
                self.notes[place] = parts["notes"]
                self.log.extend([(name, word) for word in parts["says"]])
                self.waiting.extend(parts["writes"])

    def work_off_waiting(self):
        while self.waiting:
            self.write_together((self.waiting.pop(0),))


def plain_begin(program, words, *, most=200):
    """The plain standing behind the start, and the log of the start."""
    check_most(most)
    check_start(program, words)
    machine = PlainMachine(program, words, [None for _ in program.effects], most)
    machine.look_at_effects()
    machine.work_off_waiting()
    return (machine.at_rest(), tuple(machine.log))


def plain_step(program, standing, deed, *, most=200):
    """The plain standing behind the deed, the word told (None unless it is a read), and the log of the deed."""
    check_most(most)
    if not is_deed(program, deed):
        raise InvalidDeed(deed)
    words, notes = standing
    machine = PlainMachine(program, words, notes, most)
    if deed[0] == "read":
        return (standing, machine.true_now()[deed[1]], ())
    machine.write_together((deed[1:],) if deed[0] == "write" else deed[1])
    machine.work_off_waiting()
    return (machine.at_rest(), None, tuple(machine.log))


class PlainSide:
    """The plain machine of a program, as one of two sides."""

    def __init__(self, program, most):
        self.program = program
        self.most = most

    def begun(self, words):
        try:
            standing, log = plain_begin(self.program, words, most=self.most)
        except TooManyRuns:
            return None
        return (standing, None, log)

    def moved(self, standing, deed):
        try:
            return plain_step(self.program, standing, deed, most=self.most)
        except TooManyRuns:
            return None


def plain_difference(program, rule, *, batches=True, most=200, limit=5000):
    """The least run in which the program under the rule differs from the plain machine, or None."""
    check_pair_bounds(most, limit)
    moves = deeds(program, batches=batches)
    return least_difference(program, moves, RuleSide(program, rule, most), PlainSide(program, most), limit)


def is_plain(program, rule, *, batches=True, most=200, limit=5000):
    """True if no run shows a difference from the plain machine."""
    return plain_difference(program, rule, batches=batches, most=most, limit=limit) is None
