"""Which sources runs reach, which runs are wasted, and how a body is brought to tell something."""

from toldonward.errors import InvalidStanding, UnknownCell
from toldonward.reasons import is_reason, least_reasons, telling
from toldonward.sourcesets import agreeing, is_part, least_of, source_sets, sources_in, sources_outside
from toldonward.standings import is_standing, notes_and_peeks
from toldonward.truth import true_run


def cells_in(notes, peeks):
    """The cells of the notes and the peeks of a run."""
    return [cell for cell, _ in notes + peeks]


def sources_behind(program, told, cells):
    """The sources that the cells reach; told holds the cells in the notes and peeks of each derived cell."""
    found = []
    for cell in cells:
        if cell in program.sources:
            found.append(cell)
        else:
            found.extend(sources_behind(program, told, told[cell]))
    return sources_in(program, found)


def truly_told(program, words, name):
    """The cells in the notes and peeks of the true run of the body."""
    run = true_run(program, words, name)
    return cells_in(run["notes"], run["peeks"])


def reached(program, words, name):
    """The sources that the true run of the body reaches, with its notes and its peeks."""
    cells = truly_told(program, words, name)
    told = {own: truly_told(program, words, own) for own in program.derived_names()}
    return sources_behind(program, told, cells)


def reasons_within(program, words, name):
    """The least reasons that are part of what the true run of the body reaches."""
    inside = reached(program, words, name)
    return [sources for sources in least_reasons(program, words, name) if is_part(sources, inside)]


def kept_reach(program, rule, standing, name):
    """The sources that the body reaches in the standing."""
    if not is_standing(program, rule, standing):
        raise InvalidStanding()
    bodies = program.derived_names() + program.effect_names()
    if name not in bodies:
        raise UnknownCell(name)
    told = {}
    for own in bodies:
        notes, peeks = notes_and_peeks(program, standing, own)
        told[own] = cells_in(notes, peeks)
    return sources_behind(program, told, told[name])


def words_behind(program, words, events):
    """The words of the sources behind the set events."""
    held = dict(zip(program.sources, words))
    for event in events:
        if event[0] == "set":
            held[event[1]] = event[2]
    return tuple([held[source] for source in program.sources])


def wasted(program, before, events):
    """The effects that have a run in the deed although what stays the same decides what they tell."""
    words = before[0]
    changed = words_behind(program, words, events)
    same = tuple([
        source for source, first, second in zip(program.sources, words, changed)
        if first == second
    ])
    started = [event[1] for event in events if event[0] == "run"]
    return tuple([
        name for name in program.effect_names()
        if name in started and is_reason(program, words, name, same)
    ])


def steering(program, words, name, due):
    """The least sets of sources that bring the body to tell what is due, each with the first words that do."""
    telling(program, words, name)
    first_words = {}
    for sources in source_sets(program):
        row = first_words_telling(program, agreeing(program, words, sources_outside(program, sources)), name, due)
        if row is not None:
            first_words[sources] = row
    return [(sources, first_words[sources]) for sources in least_of(list(first_words))]


def first_words_telling(program, rows, name, due):
    """The first of the words at which the body tells what is due, or None."""
    for row in rows:
        if telling(program, row, name) == due:
            return row
    return None
