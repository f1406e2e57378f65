"""Programs that show the same, and standings of a book that show the same."""

from toldonward.bounds import check_pair_bounds
from toldonward.errors import NotComparable
from toldonward.sides import RuleSide, are_apart, least_difference
from toldonward.standings import deeds


def difference(first, second, *, says_only=False, batches=True, most=200, limit=5000):
    """The least run that shows a difference of two pairs of a program and a rule, or None."""
    check_pair_bounds(most, limit)
    one, two = first[0], second[0]
    if one.sources != two.sources:
        raise NotComparable("sources")
    if one.words != two.words:
        raise NotComparable("words")
    moves = common_deeds(one, two, says_only, batches)
    return least_difference(one, moves, RuleSide(one, first[1], most), RuleSide(two, second[1], most), limit)


def alike(first, second, *, says_only=False, batches=True, most=200, limit=5000):
    """True if no run shows a difference of the two pairs."""
    found = difference(first, second, says_only=says_only, batches=batches, most=most, limit=limit)
    return found is None


def common_deeds(one, two, says_only, batches):
    """The deeds of a comparison: writes, batches, reads of the derived cells that both programs have."""
    moves = []
    for deed in deeds(one, batches=batches):
        if deed[0] != "read" or (not says_only and deed[1] in two.derived_names()):
            moves.append(deed)
    return moves


def parting(book, first, second):
    """The least tuple of deeds that shows a difference between two standings of the book, or None."""
    one, two = book.place(first), book.place(second)
    rounds = rounds_of(book.survey)
    if rounds[-1][one] == rounds[-1][two]:
        return None
    # The first round in which the two are apart has as many deeds as are needed.
    needed = [groups[one] == groups[two] for groups in rounds].count(True)
    tuple_so_far = ()
    while needed > 0:
        needed -= 1
        deed = first_parting_deed(book.survey, one, two, rounds[needed])
        tuple_so_far = tuple_so_far + (deed,)
        if needed > 0:
            one = book.survey.outcomes[one][deed][0]
            two = book.survey.outcomes[two][deed][0]
    return tuple_so_far


def first_parting_deed(survey, one, two, groups):
    """The first deed that shows a difference, or behind which the groups are different."""
    for deed in survey.deeds:
        first, second = survey.outcomes[one][deed], survey.outcomes[two][deed]
        if are_apart(first, second):
            return deed
        if first is not None and groups[first[0]] != groups[second[0]]:
            return deed
    return None


def classes(book):
    """The classes of the standings that show the same, lists of their indexes."""
    groups = rounds_of(book.survey)[-1]
    found = {}
    for place, group in enumerate(groups):
        found.setdefault(group, []).append(place)
    return list(found.values())


def rounds_of(survey):
    """For no deeds, one deed, two .. a list of groups, up to the last one that makes a difference.

    It has a number for each standing, the same one exactly for those that no so many deeds take apart.
    """
    rounds = [[0 for _ in survey.outcomes]]
    finer = finer_groups(survey, rounds[-1])
    while finer != rounds[-1]:
        rounds.append(finer)
        finer = finer_groups(survey, rounds[-1])
    return rounds


def finer_groups(survey, groups):
    """The groups for one deed more; they are numbered in the order in which they come up."""
    numbers = {}
    finer = []
    for outcomes in survey.outcomes:
        marks = tuple([
            None if outcome is None else (outcome[1], outcome[2], groups[outcome[0]])
            for outcome in outcomes.values()
        ])
        finer.append(numbers.setdefault(marks, len(numbers)))
    return finer
