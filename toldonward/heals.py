"""Changes of programs that heal them of faults, and rules without faults."""

from toldonward.bounds import check_book_bounds
from toldonward.books import Book
from toldonward.errors import InvalidChange, InvalidPath, InvalidProgram
from toldonward.judge import KINDS, check_kind
from toldonward.programs import Program
from toldonward.rows import row_behind, rows_with, slots_in
from toldonward.rules import all_rules

LETTERS = "abcdefghijklmnopqrstuvwxyz"
MOST_CANDIDATES = 8
MOST_TOGETHER = 3


def is_change(program, value):
    """True if the value, which may be any value, is a change of the program."""
    if not isinstance(value, tuple) or len(value) != 2:
        return False
    word, path = value
    try:
        row = program.row_at(path)
    except InvalidPath:
        return False
    if row[0] != "read":
        return False
    return word == "early" or (word == "peek" and path[0] == "effects")


def check_changes(program, changes, most):
    """Raise InvalidChange for the first index that is not below most, or whose change is none or an earlier one."""
    for index, change in enumerate(changes):
        if index >= most or not is_change(program, change) or change in changes[:index]:
            raise InvalidChange(index)


def with_changes(program, changes):
    """The program with the changes made."""
    check_changes(program, changes, len(changes))
    return changed(program, changes)


def changed(program, changes):
    """The program with the changes, which are right, made."""
    derived = changed_bodies("derived", program.derived, changes)
    effects = changed_bodies("effects", program.effects, changes)
    return Program(program.words, program.sources, derived, effects)


def changed_bodies(kind, pairs, changes):
    bodies = []
    for index, (name, rows) in enumerate(pairs):
        own = [(word, path[2:]) for word, path in changes if path[:2] == (kind, index)]
        bodies.append((name, changed_rows(rows, own)))
    return tuple(bodies)


def changed_rows(rows, changes):
    """The rows of a body with its changes, pairs of a word and the steps to a row."""
    slots = slots_in(rows)
    free = [letter for letter in LETTERS if letter not in slots][0]
    early = ()
    behind = rows
    for word, steps in changes:
        _, cell, slot = row_behind(rows, steps)
        if word == "early":
            early = early + (("read", cell, free),)
        else:
            behind = rows_with(behind, steps, ("peek", cell, slot))
    return early + behind


def heals(program, rule, kind, candidates, *, batches=True, most=200, limit=2000):
    """All sets of the fewest candidates, at most three, that heal the kind of fault."""
    check_book_bounds(most, limit)
    check_kind(kind)
    check_changes(program, candidates, MOST_CANDIDATES)
    before = Book(program, rule, batches=batches, most=most, limit=limit)
    if before.is_free(kind):
        return [()]
    # What the program is free of must stay so.
    kinds = [own for own in KINDS if own == kind or before.is_free(own)]
    for size in range(1, MOST_TOGETHER + 1):
        # All sets of this size get their books: one that exceeds the limit counts also behind one that heals.
        found = [
            changes for changes in sets_of(tuple(candidates), size)
            if is_book_free(changed_unless_many(program, changes), before, kinds)
        ]
        if found:
            return found
    return []


def sets_of(items, size):
    """All sets of so many of the items as tuples, by the places of their items."""
    if size == 0:
        return [()]
    return [
        (item,) + rest
        for index, item in enumerate(items) for rest in sets_of(items[index + 1:], size - 1)
    ]


def changed_unless_many(program, changes):
    """The program with the changes made; None if a body gets too many rows."""
    try:
        return changed(program, changes)
    except InvalidProgram:
        return None


def is_book_free(program, like, kinds):
    """True if the book of the program, with what else the other book has, is free of these kinds."""
    if program is None:
        return False
    book = Book(program, like.rule, batches=like.batches, most=like.most, limit=like.limit)
    return all([book.is_free(kind) for kind in kinds])


def rules_free(program, kinds, *, batches=True, most=200, limit=2000):
    """The rules under which the book of the program has no fault of any of the kinds."""
    check_book_bounds(most, limit)
    for kind in kinds:
        check_kind(kind)
    found = []
    for rule in all_rules():
        book = Book(program, rule, batches=batches, most=most, limit=limit)
        if all([book.is_free(own) for own in kinds]):
            found.append(rule)
    return found
