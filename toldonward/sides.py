"""Two sides that do the same runs, and the first run in which they show a difference.

A side is an object with two methods, begun(words) and moved(standing, deed). Both return a tuple of the standing
behind the start or the deed, the word told (None where there is none) and the log, or None if it is too long.
"""

from toldonward.sourcesets import all_words
from toldonward.spreading import deed_unless_long, start_unless_long
from toldonward.trails import Trail


class RuleSide:
    """A program under a rule."""

    def __init__(self, program, rule, most):
        self.program = program
        self.rule = rule
        self.most = most

    def begun(self, words):
        return shown_by(start_unless_long(self.program, self.rule, words, self.most))

    def moved(self, standing, deed):
        return shown_by(deed_unless_long(self.program, self.rule, standing, deed, self.most))


def shown_by(behind):
    """What a start or a deed, a Step or None, leads to and shows."""
    return None if behind is None else (behind.after, behind.told, behind.log)


def are_apart(one, two):
    """True if a start or a deed shows a difference."""
    if one is None or two is None:
        return one is not None or two is not None
    return one[1:] != two[1:]


def least_difference(program, moves, first, second, limit):
    """The least run with these deeds that shows a difference of the two sides, or None."""
    trail = Trail(limit)
    for words in all_words(program):
        if takes_apart(trail, None, words, first.begun(words), second.begun(words)):
            return trail.run_with_end(None, words)
    at = 0
    while at < len(trail.found):
        one, two = trail.found[at]
        for deed in moves:
            if takes_apart(trail, at, deed, first.moved(one, deed), second.moved(two, deed)):
                return trail.run_with_end(at, deed)
        at += 1
    return None


def takes_apart(trail, before, last, one, two):
    """True if what the run with this end leads to shows a difference; if not, the trail takes it in."""
    if are_apart(one, two):
        return True
    if one is not None:
        trail.place_of((one[0], two[0]), before, last)
    return False
