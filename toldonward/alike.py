"""Programs that show the same, and standings of a book that show the same."""

from toldonward.bounds import check_pair_bounds
from toldonward.errors import NotComparable
from toldonward.sides import RuleSide, are_apart, least_difference
from toldonward.standings import deeds


def difference(first, second, *, says_only=False, batches=True, most=200, limit=5000):
    """The least run that shows a difference of two pairs of a program and a rule, or None."""
    check_pair_bounds(most, limit)
    one, two = first[0], second[0]
    if one.sources != two.sources:
        raise NotComparable("sources")
    if one.words != two.words:
        raise NotComparable("words")
    moves = common_deeds(one, two, says_only, batches)
    return least_difference(one, moves, RuleSide(one, first[1], most), RuleSide(two, second[1], most), limit)


def alike(first, second, *, says_only=False, batches=True, most=200, limit=5000):
    """True if no run shows a difference of the two pairs."""
    found = difference(first, second, says_only=says_only, batches=batches, most=most, limit=limit)
    return found is None


def common_deeds(one, two, says_only, batches):
    """The deeds of a comparison: writes, batches, reads of the derived cells that both programs have."""
    moves = []
    for deed in deeds(one, batches=batches):
        if deed[0] != "read" or (not says_only and deed[1] in two.derived_names()):
            moves.append(deed)
    return moves


def parting(book, first, second):
    """The least tuple of deeds that shows a difference between two standings of the book, or None."""
    survey = book.survey
    one, two = book.place(first), book.place(second)
    rounds = rounds_of(survey)
    if rounds[-1][one] == rounds[-1][two]:
        return None
    # As many deeds are needed as there are rounds in which the two are in one group.
    needed = [groups[one] == groups[two] for groups in rounds].count(True)
    least = ()
    while needed > 0:
        needed -= 1
        groups = rounds[needed]
        deed = [move for move in survey.deeds if is_parting(survey, move, one, two, groups)][0]
        least = least + (deed,)
        # The last deed shows a difference: it may be too long for one of the two, and nothing follows it.
        if needed > 0:
            one, two = survey.outcomes[one][deed][0], survey.outcomes[two][deed][0]
    return least


def is_parting(survey, deed, one, two, groups):
    """True if the deed shows a difference, or leads to standings that are not in one group."""
    first, second = survey.outcomes[one][deed], survey.outcomes[two][deed]
    if are_apart(first, second):
        return True
    return first is not None and groups[first[0]] != groups[second[0]]


def classes(book):
    """The classes of the standings that show the same, lists of their indexes."""
    groups = rounds_of(book.survey)[-1]
    found = {}
    for place, group in enumerate(groups):
        found.setdefault(group, []).append(place)
    return list(found.values())


def rounds_of(survey):
    """For no deeds, one deed, two .. a list of groups, up to the last one that makes a difference.

    It has a number for each standing, the same one exactly for those that no so many deeds take apart.
    """
    rounds = [[0 for _ in survey.outcomes]]
    finer = finer_groups(survey, rounds[-1])
    while finer != rounds[-1]:
        rounds.append(finer)
        finer = finer_groups(survey, rounds[-1])
    return rounds


def finer_groups(survey, groups):
    """The groups for one deed more; they are numbered in the order in which they come up."""
    numbers = {}
    finer = []
    for outcomes in survey.outcomes:
        marks = tuple([
            None if outcome is None else (outcome[1], outcome[2], groups[outcome[0]])
            for outcome in outcomes.values()
        ])
        finer.append(numbers.setdefault(marks, len(numbers)))
    return finer
