"""Points 20 to 25 and 2 and 3: steps, deeds, the bound most, events, and wrong inputs."""

import inspect
import itertools
import sys
import unittest

from tests.cases import ErrorCase, NO_BOUNDS, RIGHT_DEEDS, THREE, WRONG_DEEDS, deep_values
from tests.samples import COPY, ODD_VALUES, ON, WORDS, example, give, nested, say
from tests.told import history, short, starts
from toldonward.errors import InvalidBound, InvalidDeed, InvalidStanding, InvalidStart, TooManyRuns
from toldonward.programs import Program
from toldonward.rules import Rule, all_rules
from toldonward.spreading import Step, begin, step
from toldonward.standings import deeds, is_standing

PUSH = Rule("push", True, "later")


class StepTest(unittest.TestCase):
    def test_a_start(self):
        first = begin(example(), PUSH, ("off",))
        self.assertIs(type(first), Step)
        self.assertEqual(vars(first), {
            "deed": None, "before": None, "told": None,
            "after": (("off",), (("off", False, (("s", "off"),)),), (((("s", "off"), ("d", "off")), ()),),
                      (("e", "d"), ("e",))),
            "events": (
                ("set", "s", "off"), ("run", "e"), ("read", "e", "s", "off"), ("run", "d"), ("read", "d", "s", "off"),
                ("end", "d", "off"), ("read", "e", "d", "off"), ("say", "e", "off"), ("end", "e", None)),
            "log": (("e", "off"),),
            "done": (("derived", 0, 0), ("derived", 0, 1), ("effects", 0, 0), ("effects", 0, 1), ("effects", 0, 2)),
        })

    def test_a_deed(self):
        first = begin(example(), PUSH, ("off",))
        second = step(example(), PUSH, first.after, ON)
        self.assertEqual((second.deed, second.before, second.told), (ON, first.after, None))
        self.assertEqual(second.log, (("e", "off"), ("e", "on")))
        self.assertEqual(second.after, (("on",), (("on", False, (("s", "on"),)),), (((("s", "on"), ("d", "on")), ()),),
                                        (("d", "e"), ("e",))))
        for part in (second.events, second.log, second.done, second.after):
            self.assertIs(type(part), tuple)

    def test_all_events(self):
        rows = (("read", "s", "x"), ("peek", "d", "y"), ("put", "z", "on"), ("if", "z", "on", (("say", "y"),), ()),
                ("write", "t", "z"))
        program = Program(WORDS, ("s", "t"), (("d", COPY),), (("e", rows),))
        for inner, behind in (("once", (("set", "t", "on"), ("end", "e", None))),
                              ("later", (("end", "e", None), ("set", "t", "on")))):
            for mode in ("push", "pull", "level"):
                self.assertEqual(begin(program, Rule(mode, True, inner), ("off", "off")).events, (
                    ("set", "s", "off"), ("set", "t", "off"), ("run", "e"), ("read", "e", "s", "off"), ("run", "d"),
                    ("read", "d", "s", "off"), ("end", "d", "off"), ("peek", "e", "d", "off"), ("say", "e", "off"),
                    ("write", "e", "t", "on")) + behind)

    def test_repeated_reads_are_told_each_time_and_noted_once(self):
        rows = (("read", "d", "x"), ("read", "s", "x"), ("read", "d", "x"), ("peek", "s", "y"), ("peek", "s", "y"))
        program = Program(WORDS, ("s",), (("d", COPY),), (("e", rows),))
        first = begin(program, PUSH, ("on",))
        self.assertEqual(short(first.events), "s:=on e( d( d<s=on )d=on e<d=on e<s=on e<d=on e~s=on e~s=on )e")
        self.assertEqual(first.after[2], (((("d", "on"), ("s", "on")), (("s", "on"),)),))

    def test_the_first_word_that_was_told_is_noted(self):
        rows = (("read", "s", "x"), ("peek", "s", "y"), ("put", "z", "on"), ("write", "s", "z"), ("read", "s", "x"),
                ("peek", "s", "y"), ("read", "t", "z"))
        program = Program(WORDS, ("s", "t"), (), (("e", rows),))
        first = begin(program, Rule("push", True, "once"), ("off", "off"))
        second = "e( e<s=on e~s=on e>s=on e<s=on e~s=on e<t=off )e"
        self.assertEqual(short(first.events),
                         "s:=off t:=off e( e<s=off e~s=off e>s=on s:=on e<s=on e~s=on e<t=off )e " + second)
        self.assertEqual(first.after[2], (((("s", "on"), ("t", "off")), (("s", "on"),)),))

    def test_a_run_keeps_the_word_that_it_was_told_first(self):
        # The run that is told "off" writes "on" and is told that, too, but it notes "off".
        rows = (("read", "s", "x"), ("put", "y", "on"), ("write", "s", "y"), ("read", "s", "x"), ("write", "s", "z"))
        program = Program(WORDS, ("s",), (), (("e", rows),))
        first = begin(program, Rule("pull", True, "once"), ("off",))
        self.assertEqual(short(first.events), "s:=off e( e<s=off e>s=on s:=on e<s=on e>s=off s:=off )e")
        self.assertEqual(first.after[2], (((("s", "off"),), ()),))


class DoneTest(unittest.TestCase):
    def test_rows_of_branches(self):
        program = nested()
        first = begin(program, PUSH, ("off", "off"))
        self.assertEqual(first.done, (
            ("effects", 0, 0), ("effects", 0, 0, 0, 0), ("effects", 0, 0, 0, 0, 0, 0),
            ("effects", 0, 0, 0, 0, 0, 0, 0, 0), ("effects", 0, 1)))
        second = step(program, PUSH, first.after, ("read", "dd"))
        self.assertEqual(second.done, (("derived", 0, 0), ("derived", 0, 1), ("derived", 0, 2), ("derived", 1, 0),
                                       ("derived", 1, 1)))
        third = step(program, Rule("pull", True, "later"), first.after, ("batch", (("s", "on"), ("t", "on"))))
        self.assertEqual(third.done, ())

    def test_rows_of_both_branches_and_rows_behind_a_give(self):
        rows = (("read", "s", "x"), ("if", "x", "on", (("give", "x"), ("put", "x", "on")), (("put", "y", "on"),)),
                ("give", "y"), ("give", "x"))
        program = Program(WORDS, ("s",), (("d", rows),), (("e", say("d")),))
        steps = history(program, PUSH, ("off",), ON, ("write", "s", "off"))
        off = (("derived", 0, 0), ("derived", 0, 1), ("derived", 0, 1, 1, 0), ("derived", 0, 2))
        effect = (("effects", 0, 0), ("effects", 0, 1))
        self.assertEqual(steps[0].done, off + effect)
        # d gives the same word, so e is not run.
        self.assertEqual(steps[1].done, (("derived", 0, 0), ("derived", 0, 1), ("derived", 0, 1, 0, 0)))
        self.assertEqual(steps[2].done, off)

    def test_several_runs_without_duplicates_in_program_order(self):
        rows = (("read", "s", "x"), ("if", "x", "off", (("put", "y", "on"), ("write", "s", "y")), (("say", "x"),)))
        program = Program(WORDS, ("s",), (), (("e", ()), ("f", rows)))
        due = tuple(program.row_paths())
        for rule in all_rules():
            if rule.cut or rule.inner == "once":
                self.assertEqual(begin(program, rule, ("off",)).done, due)


class DeedTest(unittest.TestCase):
    PROGRAM = Program(WORDS, ("s", "t", "u"), (("d", give("s")), ("c", give("t"))), (
        ("e", (("read", "s", "x"), ("say", "x"))), ("f", (("read", "t", "x"), ("read", "c", "y"), ("say", "y"))),
        ("g", (("read", "d", "x"), ("read", "t", "y"), ("say", "x"))),
    ))

    def after(self, rule, deed, words=("off", "off", "off")):
        first = begin(self.PROGRAM, rule, words)
        return step(self.PROGRAM, rule, first.after, deed)

    def test_a_batch(self):
        batch = ("batch", (("t", "on"), ("s", "on")))
        self.assertEqual(short(self.after(PUSH, batch).events),
                         "t:=on s:=on f( f<t=on f<c=off f!off )f c( c<t=on )c=on f( f<t=on f<c=on f!on )f "
                         "g( g<d=off g<t=on g!off )g e( e<s=on e!on )e d( d<s=on )d=on g( g<d=on g<t=on g!on )g")
        self.assertEqual(short(self.after(Rule("pull", True, "later"), batch).events),
                         "t:=on s:=on f( f<t=on c( c<t=on )c=on f<c=on f!on )f d( d<s=on )d=on "
                         "g( g<d=on g<t=on g!on )g e( e<s=on e!on )e")
        self.assertEqual(short(self.after(Rule("level", True, "later"), batch).events),
                         "t:=on s:=on d( d<s=on )d=on c( c<t=on )c=on e( e<s=on e!on )e f( f<t=on f<c=on f!on )f "
                         "g( g<d=on g<t=on g!on )g")

    def test_only_sources_that_change_count(self):
        batch = ("batch", (("s", "off"), ("t", "on"), ("u", "off")))
        for mode in ("push", "pull", "level"):
            cut = self.after(Rule(mode, True, "later"), batch)
            self.assertEqual(cut.events, self.after(Rule(mode, True, "later"), ("write", "t", "on")).events)
            self.assertNotIn("e", starts(cut.events))
            uncut = self.after(Rule(mode, False, "later"), batch)
            self.assertEqual([event[1:] for event in uncut.events if event[0] == "set"], list(batch[1]))
            self.assertIn("e", starts(uncut.events))

    def test_no_source_counts(self):
        batch = ("batch", (("t", "off"), ("s", "on"), ("u", "on")))
        for rule in all_rules():
            last = self.after(rule, batch, ("on", "off", "on"))
            if rule.cut:
                self.assertEqual((last.events, last.log, last.done), ((), (), ()))
                self.assertEqual(last.after, last.before)
            else:
                self.assertEqual(last.events[:3], (("set", "t", "off"), ("set", "s", "on"), ("set", "u", "on")))
                self.assertEqual({"e", "f", "g"} - set(starts(last.events)), set())

    def test_a_batch_of_one_write(self):
        for rule in all_rules():
            for source, word in (("s", "on"), ("s", "off"), ("t", "on"), ("u", "on")):
                first = self.after(rule, ("write", source, word))
                second = self.after(rule, ("batch", ((source, word),)))
                self.assertEqual(second.deed, ("batch", ((source, word),)))
                for part in ("before", "after", "told", "events", "log", "done"):
                    self.assertEqual(getattr(first, part), getattr(second, part))

    def test_writes_wait_behind_the_whole_batch(self):
        program = Program(WORDS, ("s", "t", "u"), (), (
            ("e", (("read", "s", "x"), ("write", "u", "x"))), ("f", say("t")), ("g", say("u"))))
        for mode in ("push", "pull", "level"):
            steps = history(program, Rule(mode, True, "later"), ("off", "off", "off"),
                            ("batch", (("s", "on"), ("t", "on"))))
            self.assertEqual(short(steps[1].events),
                             "s:=on t:=on e( e<s=on e>u=on )e f( f<t=on f!on )f u:=on g( g<u=on g!on )g")

    def test_reads(self):
        program = Program(WORDS, ("s",), (("d", COPY), ("c", give("d"))), (("e", say("d")),))
        for rule in all_rules():
            first = begin(program, rule, ("on",))
            source = step(program, rule, first.after, ("read", "s"))
            self.assertEqual((source.told, source.events, source.after), ("on", (), first.after))
            kept = step(program, rule, first.after, ("read", "d"))
            self.assertEqual((kept.told, kept.events, kept.after), ("on", (), first.after))
            never = step(program, rule, first.after, ("read", "c"))
            self.assertEqual((never.told, short(never.events), never.log), ("on", "c( c<d=on )c=on", ()))
            self.assertEqual(never.after[1][1], ("on", False, (("d", "on"),)))
            self.assertEqual(never.after[3], (("d",), ("e", "c"), ()))

    def test_a_read_of_a_stale_cell(self):
        program = Program(WORDS, ("s",), (("d", COPY),), ())
        for cut in (False, True):
            steps = history(program, Rule("pull", cut, "later"), ("off",), ("read", "d"), ON, ("read", "d"))
            self.assertEqual(steps[2].after[1], (("off", True, (("s", "off"),)),))
            self.assertEqual((steps[3].told, short(steps[3].events)), ("on", "d( d<s=on )d=on"))
            self.assertEqual(steps[3].after, (("on",), (("on", False, (("s", "on"),)),), (), (("d",), ())))

    def test_all_deeds_lead_to_standings(self):
        for rule in all_rules():
            first = begin(THREE, rule, ("off", "on", "mid"))
            for deed in deeds(THREE) + RIGHT_DEEDS:
                last = step(THREE, rule, first.after, deed)
                self.assertTrue(is_standing(THREE, rule, last.after))
                self.assertEqual((last.deed, last.before), (deed, first.after))


def counter():
    """Four sources as the digits of a number; each write of s may bring writes of t, u and v.

    e counts s up until v holds the last word; the others count up when the digit ahead of them begins anew.
    """
    def up(digit):
        changes = tuple(("if", "x", old, (("put", "y", new),), ())
                        for old, new in (("off", "on"), ("on", "mid"), ("mid", "top"), ("top", "off")))
        return (("peek", digit, "x"),) + changes + (("write", digit, "y"),)

    first = (("read", "s", "x"), ("peek", "v", "z"), ("if", "z", "top", (), up("s")))
    carry = [(name, (("read", ahead, "z"), ("if", "z", "off", up(digit), ())))
             for name, ahead, digit in (("f", "s", "t"), ("g", "t", "u"), ("h", "u", "v"))]
    return Program(("off", "on", "mid", "top"), ("s", "t", "u", "v"), (), (("e", first),) + tuple(carry))


def endless():
    """Effects that write each other's sources for ever, behind long chains of derived cells and deep if rows."""
    def deep(*rows):
        for _ in range(3):
            rows = (("if", "deep", "off", rows, ()),)
        return rows

    other = (("read", "s", "x"), ("if", "x", "off", (("put", "y", "on"),), ()), ("give", "y"))
    derived = [("a", other)]
    for before, name in zip("abcdg", "bcdgh"):
        derived.append((name, deep(("read", before, "x"), ("give", "x"))))
    effects = tuple((name, deep(("read", cell, "x"), ("write", source, "x")))
                    for name, cell, source in (("e", "h", "s"), ("f", "h", "t"), ("i", "t", "u"), ("j", "u", "s")))
    return Program(WORDS, ("s", "t", "u"), tuple(derived), effects)


class BoundTest(unittest.TestCase):
    def effect_runs(self, program, events):
        return len([name for name in starts(events) if name in program.effect_names()])

    def test_starts_with_just_enough_runs(self):
        program = counter()
        for rule in all_rules():
            for words in (("off", "off", "mid", "top"), ("top", "off", "top", "mid"), ("mid", "top", "top", "mid"),
                          ("on", "top", "top", "mid")):
                try:
                    first = begin(program, rule, words, most=2000)
                except TooManyRuns:
                    self.assertFalse(rule.cut and rule.inner == "later")
                    continue
                many = self.effect_runs(program, first.events)
                self.assertEqual(vars(begin(program, rule, words, most=many)), vars(first))
                with self.assertRaises(TooManyRuns) as caught:
                    begin(program, rule, words, most=many - 1)
                self.assertEqual(vars(caught.exception), {"most": many - 1})

    def test_deeds_with_just_enough_runs(self):
        for rule in all_rules():
            first = begin(example(), rule, ("off",))
            second = step(example(), rule, first.after, ON)
            many = self.effect_runs(example(), second.events)
            self.assertEqual(many, 2 if rule.mode == "push" else 1)
            self.assertEqual(vars(step(example(), rule, first.after, ON, most=many)), vars(second))
            if many > 1:
                with self.assertRaises(TooManyRuns) as caught:
                    step(example(), rule, first.after, ON, most=many - 1)
                self.assertEqual(caught.exception.most, many - 1)

    def test_runs_of_derived_cells_do_not_count(self):
        rows = tuple(("read", cell, "x") for cell in "abcdgh")
        program = Program(WORDS, ("s",), tuple((name, COPY) for name in "abcdgh"), (("e", rows),))
        for rule in all_rules():
            first = begin(program, rule, ("off",), most=1)
            self.assertEqual(len(starts(first.events)), 7)
            if rule.mode != "push":
                self.assertEqual(len(starts(step(program, rule, first.after, ON, most=1).events)), 7)
            step(program, rule, first.after, ("read", "a"), most=1)

    def test_two_hundred_where_it_is_left_out(self):
        program = counter()
        rule = Rule("level", True, "later")
        found = []
        for words in itertools.product(program.words, program.words, program.words, ("on", "mid")):
            due = begin(program, rule, words, most=2000)
            many = self.effect_runs(program, due.events)
            found.append(many)
            if many <= 200:
                self.assertEqual(vars(begin(program, rule, words)), vars(due))
                continue
            with self.assertRaises(TooManyRuns) as caught:
                begin(program, rule, words)
            self.assertEqual(caught.exception.most, 200)
        self.assertTrue(any(195 <= many <= 200 for many in found) and any(201 <= many <= 205 for many in found), found)

    def test_two_hundred_for_deeds(self):
        program = counter()
        rule = Rule("push", True, "later")
        # With v at its last word the start is short; a deed that changes v and s begins to count.
        standing = begin(program, rule, ("off", "off", "off", "top")).after
        found = []
        for second, third, last in itertools.product(program.words, program.words, ("off", "on", "mid")):
            deed = ("batch", (("v", last), ("u", third), ("t", second), ("s", "on")))
            due = step(program, rule, standing, deed, most=2000)
            many = self.effect_runs(program, due.events)
            found.append(many)
            if many <= 200:
                self.assertEqual(vars(step(program, rule, standing, deed)), vars(due))
                continue
            with self.assertRaises(TooManyRuns) as caught:
                step(program, rule, standing, deed)
            self.assertEqual(caught.exception.most, 200)
        self.assertTrue(min(found) < 200 < max(found), found)

    def test_two_thousand_runs(self):
        program = endless()
        for rule in all_rules():
            for words in (("off", "off", "off"), ("on", "off", "on")):
                with self.assertRaises(TooManyRuns) as caught:
                    begin(program, rule, words, most=2000)
                self.assertEqual(caught.exception.most, 2000)

    def test_calls_are_nested_a_few_hundred_deep_at_most(self):
        program = endless()
        limit = sys.getrecursionlimit()
        try:
            sys.setrecursionlimit(len(inspect.stack()) + 250)
            for rule in all_rules():
                self.assertRaises(TooManyRuns, begin, program, rule, ("off", "on", "off"), most=2000)
        finally:
            sys.setrecursionlimit(limit)

    def test_a_call_that_raises_changes_nothing(self):
        program = endless()
        rule = PUSH
        standing = (("off",) * 3, (None,) * 6, (((("s", "on"),), ()),) + (((), ()),) * 3, (("e",),) + ((),) * 8)
        before = (repr(vars(program)), repr(standing), vars(rule).copy())
        for _ in range(2):
            self.assertRaises(TooManyRuns, step, program, rule, standing, ON, most=50)
            self.assertEqual((repr(vars(program)), repr(standing), vars(rule)), before)


class WrongTest(ErrorCase):
    WRONG_WORDS = ODD_VALUES + [(), ("up",), ("on", "on"), ["on"], (None,), (True,), (["on"],)]

    def test_wrong_bounds_come_first(self):
        standing = begin(example(), PUSH, ("off",)).after
        for most in NO_BOUNDS + deep_values():
            for words in (("off",), ("up",), None):
                self.raises(InvalidBound, {"value": most}, begin, example(), PUSH, words, most=most)
            for value in (standing, None, ()):
                for deed in (ON, None):
                    self.raises(InvalidBound, {"value": most}, step, example(), PUSH, value, deed, most=most)

    def test_right_bounds(self):
        for most in (1, 2, 200, 1999, 2000):
            first = begin(example(), PUSH, ("off",), most=most)
            step(example(), PUSH, first.after, ("write", "s", "off"), most=most)

    def test_wrong_starts(self):
        for words in self.WRONG_WORDS + deep_values():
            for most in (1, 2000):
                self.raises(InvalidStart, {"words": words}, begin, example(), PUSH, words, most=most)

    def test_wrong_standings_come_before_wrong_deeds(self):
        standing = begin(example(), PUSH, ("off",)).after
        others = [standing[:3], list(standing), standing + ((),), (("up",),) + standing[1:]]
        for value in ODD_VALUES + deep_values() + others:
            for deed in (ON, ("write",), None, []):
                self.raises(InvalidStanding, {}, step, example(), PUSH, value, deed)
        stale = (standing[0], (("off", True, (("s", "off"),)),)) + standing[2:]
        self.raises(InvalidStanding, {}, step, example(), PUSH, stale, ON)
        step(example(), Rule("pull", True, "later"), stale, ON)

    def test_wrong_deeds(self):
        for rule in (PUSH, Rule("pull", False, "once"), Rule("level", True, "once")):
            standing = begin(THREE, rule, ("off", "off", "off")).after
            for deed in WRONG_DEEDS + ODD_VALUES + deep_values():
                self.raises(InvalidDeed, {"deed": deed}, step, THREE, rule, standing, deed)

    def test_most_is_passed_by_name(self):
        standing = begin(example(), PUSH, ("off",)).after
        self.assertRaises(TypeError, begin, example(), PUSH, ("off",), 200)
        self.assertRaises(TypeError, step, example(), PUSH, standing, ON, 200)

    def test_arguments_by_name(self):
        first = begin(program=example(), rule=PUSH, words=("off",), most=5)
        second = step(program=example(), rule=PUSH, standing=first.after, deed=ON, most=5)
        self.assertEqual(second.log, (("e", "off"), ("e", "on")))
