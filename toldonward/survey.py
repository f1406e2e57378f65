"""All standings of a program under a rule, and what each start and each deed does."""

from toldonward.judge import faults_by
from toldonward.spreading import deed_unless_long, start_unless_long
from toldonward.sourcesets import all_words
from toldonward.trails import Trail
from toldonward.truth import Truths


class Survey:
    """The standings that runs lead to, and what was seen in their starts and deeds."""

    def __init__(self, program, rule, moves, most, limit):
        self.program = program
        self.rule = rule
        self.deeds = moves
        self.most = most
        self.truths = Truths(program)
        self.trail = Trail(limit)
        # For each start its words and the place of the standing behind it, None if it is too long.
        self.openings = []
        # For each standing a dict: the deed, and what it shows and leads to, None if it is too long.
        self.outcomes = []
        # The end of the least run of each fault.
        self.fault_ends = {}
        self.done = {}
        # For each body the greatest number of its runs, and the end of the least run that has them.
        self.peaks = {}
        self.look_at_starts()
        self.look_at_deeds()

    def look_at_starts(self):
        for words in all_words(self.program):
            behind = start_unless_long(self.program, self.rule, words, self.most)
            self.see(behind, None, words)
            place = None if behind is None else self.trail.place_of(behind.after, None, words)
            self.openings.append((words, place))

    def look_at_deeds(self):
        # Standings that are found meanwhile get their turn, too.
        while len(self.outcomes) < len(self.trail.found):
            place = len(self.outcomes)
            self.outcomes.append({deed: self.outcome_of(place, deed) for deed in self.deeds})

    def outcome_of(self, place, deed):
        """The place of the standing behind the deed, the word told and the log; None if it is too long."""
        behind = deed_unless_long(self.program, self.rule, self.trail.found[place], deed, self.most)
        self.see(behind, place, deed)
        if behind is None:
            return None
        return (self.trail.place_of(behind.after, place, deed), behind.told, behind.log)

    def see(self, behind, before, last):
        """Take in what happens in a start or a deed, a Step or None, with which the run with this end ends."""
        end = (before, last)
        if behind is None:
            self.fault_ends.setdefault(("long", ""), end)
            return
        for fault in faults_by(self.truths, behind.before, behind.events):
            self.fault_ends.setdefault(fault, end)
        for path in behind.done:
            self.done[path] = True
        started = [event[1] for event in behind.events if event[0] == "run"]
        for name in self.program.derived_names() + self.program.effect_names():
            count = started.count(name)
            if name not in self.peaks or self.peaks[name][0] < count:
                self.peaks[name] = (count, end)
