"""Standings of programs at rest, and the deeds that may be done in them."""

from toldonward.truth import is_start


def is_standing(program, rule, value):
    """True if the value, which may be any value, is a standing of the program under the rule."""
    if not isinstance(value, tuple) or len(value) != 4:
        return False
    words, derived, effects, readers = value
    if not is_start(program, words) or not are_derived_entries(program, rule, derived):
        return False
    if not are_effect_entries(program, derived, effects):
        return False
    return are_readers(program, derived, effects, readers)


def are_derived_entries(program, rule, value):
    """True for a tuple with a right entry for each derived cell."""
    if not isinstance(value, tuple) or len(value) != len(program.derived):
        return False
    readable = list(program.sources)
    for name, entry in zip(program.derived_names(), value):
        if entry is not None:
            if not is_derived_entry(program, rule, entry, readable):
                return False
            # Only what has been worked out may stand in the notes of what comes later.
            readable.append(name)
    return True


def is_derived_entry(program, rule, value, readable):
    if not isinstance(value, tuple) or len(value) != 3:
        return False
    word, stale, notes = value
    if word not in program.words or not isinstance(stale, bool):
        return False
    if stale and rule.mode != "pull":
        return False
    return are_notes(program, notes, readable)


def are_effect_entries(program, derived, value):
    """True for a tuple with right notes and peeks for each effect."""
    if not isinstance(value, tuple) or len(value) != len(program.effects):
        return False
    readable = list(program.sources)
    for name, entry in zip(program.derived_names(), derived):
        if entry is not None:
            readable.append(name)
    for pair in value:
        if not isinstance(pair, tuple) or len(pair) != 2:
            return False
        if not are_notes(program, pair[0], readable) or not are_notes(program, pair[1], readable):
            return False
    return True


def are_notes(program, value, readable):
    """True for a tuple of pairs of different cells that may be read, and words."""
    if not isinstance(value, tuple):
        return False
    before = []
    for pair in value:
        if not isinstance(pair, tuple) or len(pair) != 2:
            return False
        cell, word = pair
        if cell not in readable or cell in before or word not in program.words:
            return False
        before.append(cell)
    return True


def are_readers(program, derived, effects, value):
    """True for a tuple with the readers of each cell; the entries of the bodies are right."""
    if not isinstance(value, tuple) or len(value) != len(program.cells()):
        return False
    noted = noted_cells(program, derived, effects)
    for cell, names in zip(program.cells(), value):
        due = [name for name, cells in noted if cell in cells]
        if not isinstance(names, tuple) or len(names) != len(due):
            return False
        # As many as are due, and each one that is due: so none stands there twice.
        if not all([name in names for name in due]):
            return False
    return True


def noted_cells(program, derived, effects):
    """Pairs of a name and the list of the cells in its notes, for each body that has notes."""
    noted = [
        (name, [cell for cell, _ in entry[2]])
        for name, entry in zip(program.derived_names(), derived) if entry is not None
    ]
    effect_notes = [
        (name, [cell for cell, _ in entry[0]])
        for name, entry in zip(program.effect_names(), effects)
    ]
    return noted + effect_notes


def notes_and_peeks(program, standing, name):
    """What the standing has for the last run of the body: notes and peeks, empty ones if there was none."""
    if name in program.effect_names():
        return standing[2][program.effect_names().index(name)]
    entry = standing[1][program.derived_names().index(name)]
    return ((), ()) if entry is None else (entry[2], ())


def is_deed(program, value):
    """True if the value, which may be any value, is a deed of the program."""
    if not isinstance(value, tuple) or len(value) < 2:
        return False
    if value[0] == "write":
        return is_write(program, value[1:])
    if len(value) != 2:
        return False
    if value[0] == "batch":
        return is_batch(program, value[1])
    return value[0] == "read" and value[1] in program.cells()


def is_write(program, value):
    """True for a pair of a source and a word."""
    if not isinstance(value, tuple) or len(value) != 2:
        return False
    return value[0] in program.sources and value[1] in program.words


def is_batch(program, value):
    """True for a tuple of writes to different sources, at least one."""
    if not isinstance(value, tuple) or len(value) == 0:
        return False
    before = []
    for write in value:
        if not is_write(program, write) or write[0] in before:
            return False
        before.append(write[0])
    return True


def deeds(program, *, batches=True):
    """The deeds that books use: writes, batches of two writes, reads of derived cells."""
    writes = [(source, word) for source in program.sources for word in program.words]
    found = [("write", source, word) for source, word in writes]
    if batches:
        found.extend([("batch", pair) for pair in pairs_of_writes(program, writes)])
    found.extend([("read", name) for name in program.derived_names()])
    return found


def pairs_of_writes(program, writes):
    """Pairs of writes whose sources are in ascending places, by the first write, then by the second one."""
    places = {source: place for place, source in enumerate(program.sources)}
    return [
        (first, second) for first in writes for second in writes
        if places[first[0]] < places[second[0]]
    ]
