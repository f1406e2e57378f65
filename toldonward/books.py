"""Books: all standings that runs lead to, and the faults on the way."""

from toldonward.bounds import check_book_bounds, check_most
from toldonward.errors import InvalidDeed, NoFault, NoStanding
from toldonward.judge import KINDS, check_kind
from toldonward.sourcesets import all_words
from toldonward.spreading import deed_unless_long, start_unless_long
from toldonward.standings import deeds, is_standing
from toldonward.survey import Survey
from toldonward.trails import Trail
from toldonward.verdicts import Verdict


class Book:
    """Every standing that a run of the program under the rule leads to; it never changes."""

    def __init__(self, program, rule, *, batches=True, most=200, limit=2000):
        check_book_bounds(most, limit)
        self.program = program
        self.rule = rule
        self.batches = batches
        self.most = most
        self.limit = limit
        self.survey = Survey(program, rule, deeds(program, batches=batches), most, limit)

    def __len__(self):
        return len(self.survey.trail.found)

    def __contains__(self, x):
        # The check comes first: other values need not be hashable, and 0 would be found in the place of False.
        return is_standing(self.program, self.rule, x) and x in self.survey.trail.places

    def moves(self):
        """The deeds of the book in their order."""
        return list(self.survey.deeds)

    def starts(self):
        """Pairs of words and the standing behind the start with them, None if that is too long."""
        found = self.survey.trail.found
        return [
            (words, None if place is None else found[place])
            for words, place in self.survey.openings
        ]

    def standings(self):
        """The standings in the order of their least runs."""
        return list(self.survey.trail.found)

    def place(self, standing):
        """The index of the standing, which may be any value."""
        if standing not in self:
            raise NoStanding()
        return self.survey.trail.places[standing]

    def least_run(self, standing):
        """The least run that leads to the standing."""
        before, last = self.survey.trail.ends[self.place(standing)]
        return self.survey.trail.run_with_end(before, last)

    def follow(self, standing, deed):
        """The standing behind the deed, the word told and the log; None if the deed is too long."""
        place = self.place(standing)
        if deed not in self.survey.deeds:
            raise InvalidDeed(deed)
        outcome = self.survey.outcomes[place][deed]
        if outcome is None:
            return None
        return (self.survey.trail.found[outcome[0]], outcome[1], outcome[2])

    def faults(self):
        """The faults, the kinds in the order of KINDS, then the names in program order."""
        names = self.program.derived_names() + self.program.effect_names() + ("",)
        return [(kind, name) for kind in KINDS for name in names if (kind, name) in self.survey.fault_ends]

    def least_fault(self, kind, name):
        """The least run whose last deed, or whose start, has the fault."""
        if (kind, name) not in self.survey.fault_ends:
            raise NoFault(kind, name)
        before, last = self.survey.fault_ends[(kind, name)]
        return self.survey.trail.run_with_end(before, last)

    def is_free(self, kind):
        """True if the book has no fault of this kind."""
        check_kind(kind)
        return kind not in [own for own, _ in self.faults()]

    def verdict(self):
        return Verdict(self.faults())

    def way(self, first, second):
        """The least tuple of deeds that lead from the first standing to the second one, or None."""
        start, goal = self.place(first), self.place(second)
        trail = Trail(None)
        trail.place_of(start, None, None)
        at = 0
        while goal not in trail.places and at < len(trail.found):
            outcomes = self.survey.outcomes[trail.found[at]]
            for deed, outcome in outcomes.items():
                if outcome is not None:
                    trail.place_of(outcome[0], at, deed)
            at += 1
        if goal not in trail.places:
            return None
        before, last = trail.ends[trail.places[goal]]
        return trail.run_with_end(before, last)[1]


def is_closed(program, rule, value, *, batches=True, most=200):
    """True if the value, which may be any value, is a list of standings that no start and no deed leaves."""
    check_most(most)
    if not isinstance(value, list) or not all([is_standing(program, rule, item) for item in value]):
        return False
    inside = {standing: True for standing in value}
    for words in all_words(program):
        if leaves(inside, start_unless_long(program, rule, words, most)):
            return False
    moves = deeds(program, batches=batches)
    for standing in inside:
        for deed in moves:
            if leaves(inside, deed_unless_long(program, rule, standing, deed, most)):
                return False
    return True


def leaves(inside, behind):
    """True if a start or a deed, a Step or None, leads to a standing that is not inside."""
    return behind is not None and behind.after not in inside
