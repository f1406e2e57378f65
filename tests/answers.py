"""Answers of the whole package about some programs, as a text; run as a script it prints them.

The first argument tells the order of the calls: the answers are printed in the same order always.
"""

import random
import sys

from tests.made import made_deed, made_program, made_words
from toldonward.alike import classes, difference, parting
from toldonward.books import Book, is_closed
from toldonward.counting import costs, most_runs, never_done
from toldonward.desk import Desk
from toldonward.errors import ToldError
from toldonward.heals import heals, is_change, rules_free, with_changes
from toldonward.judge import KINDS, faults, runs_of
from toldonward.live import Live
from toldonward.plain import plain_begin, plain_difference
from toldonward.reasons import deciding_sources, least_levers, least_reasons, shares
from toldonward.rules import Rule, all_rules
from toldonward.spreading import begin, step
from toldonward.standings import deeds
from toldonward.texts import format_deeds, format_program, parse_program
from toldonward.truth import true_run, true_words
from toldonward.verdicts import Verdict
from toldonward.why import kept_reach, reached, steering, wasted


MOST = 2
LIMIT = 8


def shown(value):
    """The value as a text that tells all parts of own objects."""
    if isinstance(value, (Rule, Verdict)) or hasattr(value, "row_paths") or hasattr(value, "events"):
        return type(value).__name__ + shown(vars(value))
    if isinstance(value, dict):
        return "{" + ", ".join(shown(key) + ": " + shown(value[key]) for key in value) + "}"
    if isinstance(value, (list, tuple)):
        return type(value).__name__ + "(" + ", ".join(map(shown, value)) + ")"
    return repr(value)


def told(call):
    try:
        return shown(call())
    except ToldError as error:
        return repr(error) + repr(vars(error))


def watch_all(desk):
    for kind in KINDS:
        desk |= kind
    return desk


def calls_about(program, rule, words, history):
    """Calls that answer something about the program, each without a word of the others."""
    named = {"most": MOST, "limit": LIMIT}
    names = program.derived_names() + program.effect_names()
    changes = [(word, path) for word in ("early", "peek") for path in program.row_paths()]
    right = [change for change in changes if is_change(program, change)][:3]
    level = Rule("level", True, "later")

    def stepped():
        last = begin(program, rule, words, most=MOST)
        found = [last]
        for deed in history:
            found.append(step(program, rule, found[-1].after, deed, most=MOST))
        return [(each, faults(program, each.before, each.events), runs_of(each.events),
                 each.before and wasted(program, each.before, each.events)) for each in found]

    def book(limit=LIMIT):
        return Book(program, rule, most=MOST, limit=limit)

    def lived():
        live = Live(program, rule, words, most=MOST)
        return [live.perform(deed) for deed in history] + [live.full_log(), live.undo(), live.fork().standing()]

    calls = [
        lambda: true_words(program, words), lambda: [true_run(program, words, name) for name in names],
        lambda: deeds(program), stepped, lived, lambda: parse_program(format_program(program)),
        lambda: format_deeds(list(history)), lambda: book().standings(),
        lambda: [book().least_run(standing) for standing in book().standings()],
        lambda: [(fault, book().least_fault(*fault)) for fault in book().faults()], lambda: book().starts(),
        lambda: book().verdict(), lambda: is_closed(program, rule, book().standings(), most=MOST),
        lambda: [book().way(book().standings()[0], standing) for standing in book().standings()[:5]],
        lambda: difference((program, rule), (program, level), **named), lambda: classes(book()),
        lambda: [parting(book(), book().standings()[0], standing) for standing in book().standings()[:5]],
        lambda: plain_begin(program, words, most=MOST), lambda: plain_difference(program, rule, **named),
        lambda: [most_runs(book(), name) for name in names], lambda: never_done(book()),
        lambda: costs(program, (words, history), most=MOST), lambda: with_changes(program, right),
        lambda: [heals(program, rule, kind, right[:2], **named) for kind in KINDS],
        lambda: rules_free(program, ["mixed"], **named),
        lambda: watch_all(Desk(program, [rule, level], **named)).verdicts(),
        lambda: [kept_reach(program, rule, begin(program, rule, words, most=MOST).after, name) for name in names],
    ]
    for name in names:
        for call in (least_reasons, least_levers, deciding_sources, shares, reached):
            calls.append(lambda call=call, name=name: call(program, words, name))
        calls.append(lambda name=name: steering(program, words, name, (None, (), ())))
    return calls


def all_answers(backwards=False):
    """A text with one line for each call."""
    dice = random.Random(181)
    calls = []
    for index in range(12):
        program = made_program(dice, words=2 + index % 2, sources=2, derived=2, effects=2)
        rule = all_rules()[index]
        history = tuple(made_deed(dice, program) for _ in range(4))
        calls.extend(calls_about(program, rule, made_words(dice, program), history))
    places = list(range(len(calls)))
    lines = {place: told(calls[place]) for place in (places[::-1] if backwards else places)}
    return "\n".join(lines[place] for place in places)


if __name__ == "__main__":
    print(all_answers(sys.argv[1:] == ["backwards"]))
