"""Events in a short form that is easy to read in tests."""

from toldonward.spreading import begin, step

SIGNS = {"read": "<", "peek": "~", "write": ">"}


def short_event(event):
    form = event[0]
    if form == "set":
        return event[1] + ":=" + event[2]
    if form == "run":
        return event[1] + "("
    if form == "end":
        return ")" + event[1] if event[2] is None else ")" + event[1] + "=" + event[2]
    if form == "say":
        return event[1] + "!" + event[2]
    return event[1] + SIGNS[form] + event[2] + "=" + event[3]


def short(events):
    """The events in one line: s:=on e( e<d=on e~d=on e!on e>s=on )e d( )d=on."""
    return " ".join(map(short_event, events))


def starts(events):
    """The names of the runs, in the order in which they start."""
    return [event[1] for event in events if event[0] == "run"]


def history(program, rule, words, *deeds):
    """The Steps of the start and the deeds, one after the other."""
    steps = [begin(program, rule, words)]
    for deed in deeds:
        steps.append(step(program, rule, steps[-1].after, deed))
    return steps


def lines(program, rule, words, *deeds):
    """The events of the start and of the deeds in short form."""
    return [short(each.events) for each in history(program, rule, words, *deeds)]
