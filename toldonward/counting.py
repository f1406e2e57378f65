"""How many runs there are, and which rows are never done."""

from toldonward.bounds import check_most
from toldonward.errors import InvalidDeed, UnknownName
from toldonward.rules import all_rules
from toldonward.spreading import deed_unless_long, start_unless_long
from toldonward.standings import is_deed
from toldonward.truth import check_start


def most_runs(book, name):
    """The greatest number of runs of the body in one start or deed, and the least run with it; None if one is long."""
    survey = book.survey
    if name not in book.program.derived_names() + book.program.effect_names():
        raise UnknownName(name)
    if not book.is_free("long"):
        return None
    count, end = survey.peaks[name]
    return (count, survey.trail.run_with_end(end[0], end[1]))


def never_done(book):
    """The paths of the rows that no start and no deed of the book does, in program order."""
    return [path for path in book.program.row_paths() if path not in book.survey.done]


def costs(program, run, *, most=200):
    """For each rule the numbers of runs of effects and of derived cells in the run; None if it is too long there."""
    check_most(most)
    words, moves = run
    check_start(program, words)
    for deed in moves:
        if not is_deed(program, deed):
            raise InvalidDeed(deed)
    return [cost_under(program, rule, words, moves, most) for rule in all_rules()]


def cost_under(program, rule, words, moves, most):
    behind = start_unless_long(program, rule, words, most)
    if behind is None:
        return None
    started = starts_in(behind)
    for deed in moves:
        behind = deed_unless_long(program, rule, behind.after, deed, most)
        if behind is None:
            return None
        started.extend(starts_in(behind))
    derived = len([name for name in started if name in program.derived_names()])
    return (len(started) - derived, derived)


def starts_in(behind):
    """The names of the runs that start in a start or a deed."""
    return [event[1] for event in behind.events if event[0] == "run"]
