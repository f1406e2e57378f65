"""Starts and deeds, and what happens in them."""

from toldonward.bounds import check_most
from toldonward.errors import InvalidDeed, InvalidStanding, TooManyRuns
from toldonward.machine import Machine
from toldonward.standings import is_deed, is_standing
from toldonward.truth import check_start


class Step:
    """A start or a deed: the standings before and behind it, and what happened in it."""

    def __init__(self, deed, before, after, told, events, log, done):
        self.deed = deed
        self.before = before
        self.after = after
        self.told = told
        self.events = events
        self.log = log
        self.done = done


def begin(program, rule, words, *, most=200):
    """The start of the program under the rule with these words of the sources."""
    check_most(most)
    check_start(program, words)
    return start_with(program, rule, words, most)


def step(program, rule, standing, deed, *, most=200):
    """The deed, done from the standing."""
    check_most(most)
    if not is_standing(program, rule, standing):
        raise InvalidStanding()
    if not is_deed(program, deed):
        raise InvalidDeed(deed)
    return deed_from(program, rule, standing, deed, most)


def start_with(program, rule, words, most):
    """The Step of a start that needs no checks."""
    machine = Machine(program, rule, most)
    machine.start(words)
    return step_behind(machine, None, None, None)


def deed_from(program, rule, standing, deed, most):
    """The Step of a deed that needs no checks."""
    machine = Machine(program, rule, most)
    machine.load(standing)
    told = machine.do_deed(deed)
    return step_behind(machine, deed, standing, told)


def start_unless_long(program, rule, words, most):
    """The Step of a start that needs no checks; None if the start is too long."""
    try:
        return start_with(program, rule, words, most)
    except TooManyRuns:
        return None


def deed_unless_long(program, rule, standing, deed, most):
    """The Step of a deed that needs no checks; None if the deed is too long."""
    try:
        return deed_from(program, rule, standing, deed, most)
    except TooManyRuns:
        return None


def step_behind(machine, deed, before, told):
    """The Step of a start or a deed that the machine has done."""
    events = tuple(machine.events)
    log = tuple([(event[1], event[2]) for event in events if event[0] == "say"])
    # The order of the paths as tuples is the program order of their rows: "derived" comes ahead of "effects".
    done = tuple(sorted(machine.done))
    return Step(deed, before, machine.at_rest(), told, events, log, done)
