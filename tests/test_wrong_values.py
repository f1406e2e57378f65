"""Points 2 and 3: each function with wrong values, one at a time and two at a time; the first error is told."""

import itertools
import unittest

from tests.samples import ON, WORDS, example
from tests.test_books import HIGH, LOW
from toldonward.alike import alike, difference, parting
from toldonward.books import Book, is_closed
from toldonward.counting import costs, most_runs
from toldonward.desk import Desk
from toldonward.errors import (InvalidBound, InvalidChange, InvalidDeed, InvalidKind, InvalidPath, InvalidProgram,
                               InvalidRule, InvalidSources, InvalidStanding, InvalidStart, InvalidText, LimitExceeded,
                               NoFault, NoStanding, NotComparable, ToldError, TooManyRuns, UnknownCell, UnknownName,
                               UnknownWord)
from toldonward.heals import heals, rules_free, with_changes
from toldonward.live import Live, Pack
from toldonward.plain import is_plain, plain_begin, plain_difference, plain_step
from toldonward.programs import Program
from toldonward.reasons import (certainty, deciding_sources, is_lever, is_reason, least_levers, least_reasons, lever_words,
                                shares, telling)
from toldonward.rules import Rule
from toldonward.spreading import begin, step
from toldonward.texts import parse_deeds, parse_program
from toldonward.truth import true_run, true_word, true_words
from toldonward.verdicts import Verdict
from toldonward.why import kept_reach, reached, reasons_within, steering

PUSH, LEVEL = Rule("push", True, "later"), Rule("level", True, "later")
FULL = (("read", "s", "x"),) * 16
PATH = ("effects", 0, 0)
ENDLESS_ROWS = (("read", "s", "x"), ("if", "x", "on", (("put", "x", "off"),), (("put", "x", "on"),)), ("write", "s", "x"))
ENDLESS = Program(WORDS, ("s",), (), (("e", ENDLESS_ROWS),))
WIDE = Program(WORDS, ("s", "t"), (), ())
TURNED = Program(("on", "off"), ("s",), example().derived, example().effects)


def wrong(error, values, **attributes):
    return (values, error, attributes)


def bound(name, greatest=True):
    """A wrong bound under this name."""
    value = 20001 if greatest else 0
    return wrong(InvalidBound, {name: value}, value=value)


def live():
    return Live(example(), PUSH, ("off",))


def short_live():
    return Live(example(), PUSH, ("off",), most=1)


def with_words(call, *others, **right):
    """A call with words and a name."""
    return (call, {"program": example(), "words": ("off",), "name": "d", **right},
            [wrong(InvalidStart, {"words": "off"}, words="off"), wrong(UnknownCell, {"name": "q"}, name="q"), *others])


MOST = bound("most")
STANDING = wrong(InvalidStanding, {"standing": "s"})
START = wrong(InvalidStart, {"words": ("up",)}, words=("up",))
DEED = wrong(InvalidDeed, {"deed": ("say", "s")}, deed=("say", "s"))
KIND = wrong(InvalidKind, {"kind": "other"}, kind="other")
PAIRS = {"first": (example(), PUSH), "second": (example(), LEVEL)}
COMPARED = [
    MOST, bound("limit"), wrong(NotComparable, {"second": (WIDE, PUSH)}, part="sources"),
    wrong(NotComparable, {"first": (TURNED, PUSH)}, part="words"), wrong(LimitExceeded, {"limit": 1}, limit=1)]
PLAIN = [MOST, bound("limit"), wrong(LimitExceeded, {"limit": 1}, limit=1)]
SOURCES = wrong(InvalidSources, {"sources": ["s"]}, sources=["s"])
WHOLE = {"program": example(), "rule": PUSH}

# Each call, its right arguments, and its errors in their order with the arguments that bring them.
CALLS = [
    (Program, {"words": WORDS, "sources": ("s",), "derived": (), "effects": ()}, [
        wrong(InvalidProgram, {"words": ()}, part="words", path=()),
        wrong(InvalidProgram, {"sources": ()}, part="sources", path=()),
        wrong(InvalidProgram, {"derived": None}, part="derived", path=()),
        wrong(InvalidProgram, {"effects": None}, part="effects", path=()),
        wrong(InvalidProgram, {"derived": (("d", None),)}, part="rows", path=("derived", 0)),
        wrong(InvalidProgram, {"effects": (("e", (None,)),)}, part="rows", path=("effects", 0, 0)),
        wrong(InvalidProgram, {"effects": (("e", FULL + FULL),)}, part="many", path=("effects", 0))]),
    (example().body, {"name": "e"}, [wrong(UnknownCell, {"name": "s"}, name="s")]),
    (example().row_at, {"path": PATH}, [wrong(InvalidPath, {"path": PATH[:2]}, path=PATH[:2])]),
    (example().with_row, {"path": PATH, "row": ("say", "x")}, [
        wrong(InvalidPath, {"path": None}, path=None),
        wrong(InvalidProgram, {"row": None}, part="rows", path=PATH)]),
    (true_words, {"program": example(), "words": ("off",)}, [START]),
    (true_word, {"program": example(), "words": ("off",), "cell": "d"}, [
        START, wrong(UnknownCell, {"cell": "e"}, name="e")]),
    with_words(true_run),
    (Rule, {"mode": "push", "cut": True, "inner": "once"}, [
        wrong(InvalidRule, {"mode": "once"}, part="mode"), wrong(InvalidRule, {"cut": 1}, part="cut"),
        wrong(InvalidRule, {"inner": "push"}, part="inner")]),
    with_words(telling), with_words(least_reasons), with_words(least_levers), with_words(deciding_sources),
    with_words(shares), with_words(is_reason, value=()), with_words(is_lever, value=None),
    with_words(lever_words, SOURCES, sources=()), with_words(certainty, SOURCES, sources=("s",)),
    with_words(reached), with_words(reasons_within), with_words(steering, due=None),
    (kept_reach, {**WHOLE, "standing": LOW, "name": "e"}, [STANDING, wrong(UnknownCell, {"name": "s"}, name="s")]),
    (begin, {**WHOLE, "words": ("off",), "most": 1}, [
        MOST, START, wrong(TooManyRuns, {"program": ENDLESS}, most=1)]),
    (step, {**WHOLE, "standing": LOW, "deed": ON, "most": 2}, [
        MOST, STANDING, DEED, wrong(TooManyRuns, {"most": 1}, most=1)]),
    (Live, {**WHOLE, "words": ("off",), "most": 1, "standing": None}, [
        MOST, START, wrong(TooManyRuns, {"program": ENDLESS}, most=1)]),
    (Live, {**WHOLE, "words": None, "most": 1, "standing": LOW}, [
        MOST, STANDING, wrong(InvalidStart, {"words": ("off",)}, words=("off",))]),
    (live().set_bound, {"value": 1}, [bound("value")]),
    (live().write, {"source": "s", "word": "on"}, [
        wrong(UnknownCell, {"source": "d"}, name="d"), wrong(UnknownWord, {"word": "up"}, word="up")]),
    (short_live().write, {"source": "s", "word": "off"}, [
        wrong(UnknownCell, {"source": "d"}, name="d"), wrong(UnknownWord, {"word": None}, word=None),
        wrong(TooManyRuns, {"word": "on"}, most=1)]),
    (live().read, {"cell": "d"}, [wrong(UnknownCell, {"cell": "e"}, name="e")]),
    (short_live().perform, {"deed": ("read", "d")}, [DEED, wrong(TooManyRuns, {"deed": ON}, most=1)]),
    (live().write_pack, {"pack": None}, [wrong(InvalidDeed, {"pack": Pack(example())}, deed=("batch", ()))]),
    (lambda at, worth: Pack(example()).__setitem__(at, worth), {"at": "s", "worth": "on"}, [
        wrong(UnknownCell, {"at": "e"}, name="e"), wrong(UnknownWord, {"worth": "up"}, word="up")]),
    (parse_program, {"text": "words off on\nsources s\n"}, [wrong(InvalidText, {"text": "words off on\n"}, line=2)]),
    (parse_deeds, {"text": ""}, [wrong(InvalidText, {"text": "\n"}, line=1)]),
    (Book, {**WHOLE, "batches": True, "most": 200, "limit": 4}, [
        MOST, wrong(InvalidBound, {"limit": 10001}, value=10001), wrong(LimitExceeded, {"limit": 3}, limit=3)]),
    (Book(example(), PUSH).least_run, {"standing": LOW}, [wrong(NoStanding, {"standing": None})]),
    (Book(example(), PUSH).follow, {"standing": LOW, "deed": ON}, [wrong(NoStanding, {"standing": None}), DEED]),
    (Book(example(), PUSH).least_fault, {"kind": "mixed", "name": "e"}, [
        wrong(NoFault, {"kind": "long"}, kind="long", name="e"), wrong(NoFault, {"name": "q"}, kind="mixed", name="q")]),
    (Book(example(), PUSH).is_free, {"kind": "mixed"}, [KIND]),
    (Book(example(), PUSH).way, {"first": LOW, "second": HIGH}, [
        wrong(NoStanding, {"first": None}), wrong(NoStanding, {"second": ()})]),
    (is_closed, {**WHOLE, "value": None}, [MOST]),
    (Verdict, {"pairs": []}, [wrong(InvalidKind, {"pairs": [("other", "e"), ("more", "e")]}, kind="other")]),
    (difference, PAIRS, COMPARED), (alike, PAIRS, COMPARED),
    (lambda first, second: parting(Book(example(), PUSH), first, second), {"first": LOW, "second": HIGH}, [
        wrong(NoStanding, {"first": None}), wrong(NoStanding, {"second": ()})]),
    (plain_begin, {"program": example(), "words": ("off",), "most": 1}, [
        MOST, START, wrong(TooManyRuns, {"program": ENDLESS}, most=1)]),
    (plain_step, {"program": example(), "standing": plain_begin(example(), ("off",))[0], "deed": ON}, [MOST, DEED]),
    (plain_difference, {**WHOLE, "rule": LEVEL}, PLAIN), (is_plain, {**WHOLE, "rule": LEVEL}, PLAIN),
    (lambda book, name: most_runs(book, name), {"book": Book(example(), PUSH), "name": "e"}, [
        wrong(UnknownName, {"name": "s"}, name="s")]),
    (lambda words, deeds, most: costs(example(), (words, deeds), most=most), {"words": ("off",), "deeds": (), "most": 1}, [
        MOST, START, wrong(InvalidDeed, {"deeds": (ON, ("say", "s"), None)}, deed=("say", "s"))]),
    (lambda changes, more: with_changes(Program(WORDS, ("s",), (), (("e", FULL),)), changes + more),
     {"changes": [], "more": []}, [
         wrong(InvalidChange, {"changes": [None]}, index=0),
         wrong(InvalidProgram, {"more": [("early", PATH)]}, part="many", path=PATH[:2])]),
    (heals, {**WHOLE, "kind": "mixed", "candidates": [], "limit": 4}, [
        MOST, bound("limit"), KIND, wrong(InvalidChange, {"candidates": [None]}, index=0),
        wrong(LimitExceeded, {"limit": 3}, limit=3)]),
    (rules_free, {"program": example(), "kinds": []}, [
        MOST, bound("limit"), wrong(InvalidKind, {"kinds": ["mixed", "", "x"]}, kind=""),
        wrong(LimitExceeded, {"limit": 1}, limit=1)]),
    (Desk, {"program": example(), "rules": [PUSH]}, [MOST, bound("limit")]),
    (Desk(example(), [PUSH]).__getitem__, {"at": PATH}, [wrong(InvalidPath, {"at": ()}, path=())]),
    (Desk(example(), [PUSH]).__setitem__, {"at": PATH, "worth": ("say", "x")}, [
        wrong(InvalidPath, {"at": ()}, path=()),
        wrong(InvalidProgram, {"worth": ()}, part="rows", path=PATH)]),
    (Desk(example(), [PUSH]).__ior__, {"other": "mixed"}, [wrong(InvalidKind, {"other": "x"}, kind="x")]),
]


class WrongValuesTest(unittest.TestCase):
    def told(self, call, arguments):
        """The error that the call raises, and its attributes."""
        with self.assertRaises(ToldError) as caught:
            call(**arguments)
        return (type(caught.exception), vars(caught.exception))

    def test_right_values(self):
        for call, right, _ in CALLS:
            if right.get("pack", self) is not None:
                call(**right)

    def test_one_wrong_value_at_a_time(self):
        for call, right, errors in CALLS:
            for values, error, attributes in errors:
                self.assertEqual(self.told(call, {**right, **values}), (error, attributes), call)

    def test_two_wrong_values_at_a_time(self):
        pairs = 0
        for call, right, errors in CALLS:
            for (first, error, attributes), (second, _, _) in itertools.combinations(errors, 2):
                if not set(first) & set(second) and self.is_told_first(call, attributes):
                    self.assertEqual(self.told(call, {**right, **first, **second}), (error, attributes), call)
                    pairs += 1
        self.assertTrue(pairs > 80, pairs)

    def is_told_first(self, call, attributes):
        # Both values of a fault stand in the one error.
        return "kind" not in attributes or "name" not in attributes

    def test_functions_without_errors_of_their_own(self):
        """Whatever the value is, these answer."""
        from toldonward.heals import is_change
        from toldonward.standings import is_deed, is_standing
        for value in (None, True, 0, "", "s", (), [], {}, ((),), [[]], {"a": []}, (None,) * 4):
            self.assertIs(is_standing(example(), PUSH, value), False)
            self.assertIs(is_deed(example(), value), False)
            self.assertIs(is_change(example(), value), False)
            self.assertIs(value in Book(example(), PUSH), False)
            self.assertIs(is_closed(example(), PUSH, value), False)
            self.assertIs(value in Pack(example()), False)
