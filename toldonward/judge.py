"""The faults of starts and deeds, and the runs in them."""

from toldonward.errors import InvalidKind
from toldonward.records import Record
from toldonward.standings import notes_and_peeks
from toldonward.truth import Truths

KINDS = ("mixed", "through", "twice", "needless", "missed", "long")


def check_kind(kind):
    """Raise InvalidKind unless it is a kind of fault."""
    if kind not in KINDS:
        raise InvalidKind(kind)


def see(record, event):
    """Take in an event of the run."""
    if event[0] == "read":
        record.noted.setdefault(event[2], event[3])
    elif event[0] == "peek":
        record.peeked.setdefault(event[2], event[3])
    elif event[0] == "say":
        record.said.append(event[2])
    elif event[0] == "write":
        record.written.append((event[2], event[3]))
    elif event[0] == "end":
        record.given = event[2]


def runs_of(events):
    """A dict for each run of the events, in the order in which they start."""
    runs = []
    latest = {}
    for event in events:
        if event[0] == "run":
            latest[event[1]] = Record()
            runs.append((event[1], latest[event[1]]))
        elif event[0] != "set":
            # Of one name no two runs are under way together, so the event belongs to the latest one.
            see(latest[event[1]], event)
    return [named_parts(name, record) for name, record in runs]


def named_parts(name, record):
    parts = {"name": name}
    parts.update(record.parts())
    return parts


def faults(program, before, events):
    """The faults of a start or a deed, the kinds in the order of KINDS, then the names in program order."""
    return faults_by(Truths(program), before, events)


def faults_by(truths, before, events):
    """The faults of a start or a deed of the program whose true words these are."""
    program = truths.program
    known = known_at_events(truths, before, events)
    found = untrue_faults(program, known, events)
    runs = runs_of(events)
    has_writes = any([event[0] == "write" for event in events])
    for name in program.effect_names():
        earlier = [] if before is None else [notes_and_peeks(program, before, name)]
        own = [(run["notes"], run["peeks"]) for run in runs if run["name"] == name]
        if len(own) > 1 and not has_writes:
            found[("twice", name)] = True
        if has_same_notes_again(earlier + own):
            found[("needless", name)] = True
        if is_last_one_untrue(earlier + own, known[-1]):
            found[("missed", name)] = True
    names = program.derived_names() + program.effect_names()
    return [(kind, name) for kind in KINDS for name in names if (kind, name) in found]


def known_at_events(truths, before, events):
    """Dicts with the true words of the cells: ahead of the first event, then behind each event."""
    sources = truths.program.sources
    held = {} if before is None else dict(zip(sources, before[0]))
    known = {} if before is None else truths.at_words(before[0])
    found = [known]
    for event in events:
        if event[0] == "set":
            held[event[1]] = event[2]
            # In a start no cell has a true word before all sources are set.
            if len(held) == len(sources):
                known = truths.at_words(tuple([held[source] for source in sources]))
        found.append(known)
    return found


def untrue_faults(program, known, events):
    """A dict with the faults of the runs that were told a word that is not true."""
    found = {}
    for event, true in zip(events, known):
        if event[0] in ("read", "peek") and event[3] != true[event[2]]:
            kind = "mixed" if event[1] in program.effect_names() else "through"
            found[(kind, event[1])] = True
    return found


def has_same_notes_again(runs):
    """True if one of the runs, pairs of notes and peeks, has the notes of the one before it."""
    return any([first[0] == second[0] for first, second in zip(runs, runs[1:])])


def is_last_one_untrue(runs, true):
    """True if the last of the runs was told a word that is not true, by a read or a peek."""
    if len(runs) == 0:
        return False
    notes, peeks = runs[-1]
    return any([true[cell] != word for cell, word in notes + peeks])
