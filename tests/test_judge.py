"""Points 26 and 27: faults, and the runs of events."""

import random
import unittest

from tests.made import made_deed, made_program, made_standing, made_words
from tests.samples import COPY, OFF, ON, WORDS, example, give, say
from tests.second import due_faults
from tests.told import history, short
from toldonward.errors import TooManyRuns
from toldonward.judge import KINDS, faults, runs_of
from toldonward.programs import Program
from toldonward.rules import Rule, all_rules
from toldonward.spreading import begin, step
from toldonward.truth import true_run

PUSH = Rule("push", True, "later")
PUSH_ONCE = Rule("push", True, "once")


def judged(program, rule, words, *deeds):
    """The faults of the start and of each deed."""
    return [faults(program, each.before, each.events) for each in history(program, rule, words, *deeds)]


class KindsTest(unittest.TestCase):
    def test_kinds(self):
        self.assertEqual(KINDS, ("mixed", "through", "twice", "needless", "missed", "long"))

    def test_the_examples_of_the_document(self):
        # Behind the first write d is told ahead of e.
        self.assertEqual(judged(example(), PUSH, ("off",), ON, OFF), [
            [], [("mixed", "e"), ("twice", "e")], [("twice", "e"), ("needless", "e")],
        ])


class MixedTest(unittest.TestCase):
    def test_reads_of_effects(self):
        self.assertIn(("mixed", "e"), judged(example(), PUSH, ("off",), ON)[1])
        self.assertNotIn(("through", "e"), judged(example(), PUSH, ("off",), ON)[1])

    def test_peeks_of_effects(self):
        rows = (("read", "s", "x"), ("peek", "d", "y"), ("say", "y"))
        program = Program(WORDS, ("s",), (("d", COPY),), (("e", rows),))
        steps = history(program, PUSH, ("off",), ON)
        self.assertEqual(short(steps[1].events), "s:=on e( e<s=on e~d=off e!off )e d( d<s=on )d=on")
        # The peek is told no true word, and nothing tells the effect of the new one.
        self.assertEqual(faults(program, steps[1].before, steps[1].events), [("mixed", "e"), ("missed", "e")])

    def test_derived_cells(self):
        both = (("read", "s", "x"), ("read", "c", "x"), ("give", "x"))
        program = Program(WORDS, ("s",), (("c", give("s")), ("d", both)), (("e", (("read", "d", "x"), ("say", "x"))),))
        steps = history(program, PUSH, ("off",), ON)
        self.assertEqual(short(steps[1].events),
                         "s:=on d( d<s=on d<c=off )d=off c( c<s=on )c=on d( d<s=on d<c=on )d=on e( e<d=on e!on )e")
        self.assertEqual(faults(program, steps[1].before, steps[1].events), [("through", "d")])

    def test_the_words_that_the_sources_hold_at_that_moment(self):
        # e is told "off" of s when that is true, and "on" after its own write; g is told nothing old.
        rows = (("read", "s", "x"), ("put", "y", "on"), ("write", "s", "y"), ("read", "s", "x"))
        program = Program(WORDS, ("s",), (), (("e", rows),))
        self.assertEqual(judged(program, PUSH_ONCE, ("off",))[0], [])
        events = (("set", "s", "on"), ("run", "e"), ("read", "e", "s", "on"), ("set", "s", "off"),
                  ("read", "e", "s", "off"), ("end", "e", None))
        standing = (("off",), (), (((("s", "off"),), ()),), (("e",),))
        self.assertEqual(faults(program, standing, events), [("missed", "e")])
        wrong = events[:2] + (("read", "e", "s", "off"),) + events[3:]
        self.assertEqual(faults(program, standing, wrong), [("mixed", "e"), ("needless", "e")])

    def test_the_words_ahead_of_the_first_set_event(self):
        standing = (("off",), (("on", True, (("s", "on"),)),), (((("d", "on"),), ()),), (("d",), ("e",)))
        events = (("run", "d"), ("read", "d", "s", "off"), ("end", "d", "off"))
        self.assertEqual(faults(example(), standing, events), [("missed", "e")])
        events = (("run", "d"), ("read", "d", "s", "on"), ("end", "d", "on"))
        self.assertEqual(faults(example(), standing, events), [("through", "d"), ("missed", "e")])


class TwiceTest(unittest.TestCase):
    def test_two_runs(self):
        rows = (("read", "d", "y"), ("read", "s", "x"), ("say", "y"))
        program = Program(WORDS, ("s",), (("d", COPY),), (("e", rows),))
        self.assertEqual(judged(program, PUSH, ("off",), ON), [[], [("twice", "e"), ("needless", "e")]])

    def test_runs_of_derived_cells_do_not_count(self):
        both = (("read", "s", "x"), ("read", "c", "x"), ("give", "x"))
        program = Program(WORDS, ("s",), (("c", give("s")), ("d", both)), ())
        steps = history(program, PUSH, ("off",), ("read", "d"), ON)
        self.assertEqual(short(steps[2].events),
                         "s:=on d( d<s=on d<c=off )d=off c( c<s=on )c=on d( d<s=on d<c=on )d=on")
        self.assertEqual(faults(program, steps[2].before, steps[2].events), [("through", "d")])

    def test_not_where_an_effect_writes(self):
        rows = (("read", "s", "x"), ("read", "d", "y"), ("write", "t", "y"))
        program = Program(WORDS, ("s", "t"), (("d", COPY),), (("e", rows),))
        for rule in (PUSH, PUSH_ONCE):
            self.assertEqual(judged(program, rule, ("off", "off"), ON)[1], [("mixed", "e")])
        writer = (("read", "s", "x"), ("write", "t", "q"))
        other = Program(WORDS, ("s", "t"), (("d", COPY),), (("e", rows[:2]), ("f", writer)))
        steps = history(other, PUSH, ("off", "off"), ON)
        self.assertIn(("write", "f", "t", "off"), steps[1].events)
        self.assertNotIn("twice", [kind for kind, _ in faults(other, steps[1].before, steps[1].events)])

    def test_in_a_start(self):
        events = (("set", "s", "on"), ("run", "e"), ("read", "e", "s", "on"), ("end", "e", None), ("run", "e"),
                  ("read", "e", "s", "on"), ("read", "e", "d", "on"), ("end", "e", None))
        self.assertEqual(faults(example(), None, events), [("twice", "e")])


class NeedlessTest(unittest.TestCase):
    PROGRAM = Program(WORDS, ("s", "t"), (), (("e", (("read", "s", "x"), ("read", "t", "x"), ("say", "x"))),))
    LEVEL = Rule("level", False, "later")

    def test_the_notes_of_the_standing_before(self):
        for mode in ("push", "pull", "level"):
            self.assertEqual(judged(self.PROGRAM, Rule(mode, False, "later"), ("off", "off"), OFF, ON),
                             [[], [("needless", "e")], []])

    def test_the_notes_of_a_run_in_the_same_events(self):
        batch = ("batch", (("s", "on"), ("t", "on")))
        self.assertEqual(judged(self.PROGRAM, PUSH, ("off", "off"), batch)[1], [("twice", "e"), ("needless", "e")])

    def test_the_order_of_the_notes_counts(self):
        first = ("if", "x", "on", (("read", "s", "y"),), ())
        rows = (("peek", "q", "x"), first, ("read", "t", "y"), ("read", "s", "y"))
        program = Program(WORDS, ("s", "t", "q"), (), (("e", rows),))
        steps = history(program, self.LEVEL, ("off", "off", "off"), ("write", "q", "on"), OFF, OFF)
        self.assertEqual(steps[1].after[2][0][0], (("t", "off"), ("s", "off")))
        self.assertEqual(steps[2].after[2][0][0], (("s", "off"), ("t", "off")))
        self.assertEqual([faults(program, each.before, each.events) for each in steps[2:]], [[], [("needless", "e")]])

    def test_peeks_do_not_count(self):
        rows = (("peek", "t", "x"), ("read", "s", "y"))
        program = Program(WORDS, ("s", "t"), (), (("e", rows),))
        self.assertEqual(judged(program, self.LEVEL, ("off", "off"), ("write", "t", "on"), OFF),
                         [[], [("missed", "e")], [("needless", "e")]])

    def test_a_start(self):
        empty = Program(WORDS, ("s",), (), (("e", ()),))
        self.assertEqual(judged(empty, PUSH, ("off",)), [[]])
        # The second run of e in the start is told the same words again.
        rows = (("read", "s", "x"), ("put", "y", "on"), ("write", "s", "y"), ("write", "s", "x"))
        writer = (("put", "y", "on"), ("write", "s", "y"))
        program = Program(WORDS, ("s",), (), (("e", (("read", "s", "x"),)), ("f", writer)))
        self.assertEqual(judged(program, Rule("push", False, "once"), ("on",)), [[("needless", "e")]])
        self.assertEqual(judged(program, PUSH_ONCE, ("off",)), [[]])
        with self.assertRaises(TooManyRuns):
            begin(Program(WORDS, ("s",), (), (("e", rows),)), PUSH_ONCE, ("off",))

    def test_runs_of_other_effects_stand_between(self):
        events = (("set", "s", "on"), ("run", "e"), ("read", "e", "s", "on"), ("end", "e", None), ("run", "f"),
                  ("read", "f", "s", "on"), ("end", "f", None), ("run", "e"), ("read", "e", "s", "on"),
                  ("end", "e", None))
        program = Program(WORDS, ("s",), (), (("e", ()), ("f", ())))
        standing = (("off",), (), (((("s", "off"),), ()), ((("s", "on"),), ())), (("e", "f"),))
        self.assertEqual(faults(program, standing, events), [("twice", "e"), ("needless", "e"), ("needless", "f")])


class MissedTest(unittest.TestCase):
    ROWS = (("read", "s", "x"), ("peek", "t", "y"), ("say", "y"))
    PROGRAM = Program(WORDS, ("s", "t"), (), (("e", ROWS),))

    def test_peeks_of_the_standing_before(self):
        for rule in all_rules():
            found = judged(self.PROGRAM, rule, ("off", "off"), ("write", "t", "on"), ("read", "s"), ON,
                           ("write", "t", "off"), ("write", "t", "on"))
            self.assertEqual(found, [[], [("missed", "e")], [("missed", "e")], [], [("missed", "e")], []])

    def test_a_change_behind_the_last_run(self):
        writer = (("read", "s", "x"), ("write", "t", "x"))
        program = Program(WORDS, ("s", "t"), (), (("e", self.ROWS), ("f", writer)))
        for rule in all_rules():
            if rule.cut:
                found = judged(program, rule, ("on", "off"), ("write", "t", "off"), OFF, ON)
                self.assertEqual(found, [[("missed", "e")], [], [], [("missed", "e")]])

    def test_notes(self):
        standing = (("off", "off"), (), (((("s", "on"),), ()),), (("e",), ()))
        self.assertEqual(faults(self.PROGRAM, standing, ()), [("missed", "e")])
        standing = (("on", "off"), (), (((("s", "on"),), ()),), (("e",), ()))
        self.assertEqual(faults(self.PROGRAM, standing, ()), [])
        self.assertEqual(faults(self.PROGRAM, standing, (("set", "s", "off"),)), [("missed", "e")])

    def test_derived_cells_in_peeks(self):
        program = Program(WORDS, ("s",), (("d", COPY),), (("e", (("peek", "d", "x"), ("say", "x"))),))
        self.assertEqual(judged(program, PUSH, ("off",), ON, OFF), [[], [("missed", "e")], []])


class OrderTest(unittest.TestCase):
    def test_kinds_then_names_without_duplicates(self):
        program = Program(WORDS, ("s",), (("z", COPY), ("d", COPY)), (("f", ()), ("e", ())))
        standing = (("off",), (None, None), (((("s", "off"),), ()), ((("s", "off"),), ())), (("f", "e"), (), ()))
        events = []
        for name in ("e", "d", "f", "z", "e", "d", "f", "z"):
            end = None if name in ("e", "f") else "off"
            events += [("run", name), ("read", name, "s", "on"), ("read", name, "s", "on"), ("end", name, end)]
        self.assertEqual(faults(program, standing, tuple(events)), [
            ("mixed", "f"), ("mixed", "e"), ("through", "z"), ("through", "d"), ("twice", "f"), ("twice", "e"),
            ("needless", "f"), ("needless", "e"), ("missed", "f"), ("missed", "e"),
        ])

    def test_all_kinds_in_a_start(self):
        program = Program(WORDS, ("s", "t"), (("d", COPY),), (("e", ()), ("f", ())))
        words = (("set", "s", "on"), ("set", "t", "off"))
        first = (("run", "e"), ("peek", "e", "t", "on"), ("end", "e", None))
        derived = (("run", "d"), ("read", "d", "s", "off"), ("end", "d", "off"))
        second = (("run", "f"), ("read", "f", "s", "on"), ("read", "f", "d", "on"), ("end", "f", None))
        self.assertEqual(faults(program, None, words + first), [("mixed", "e"), ("missed", "e")])
        self.assertEqual(faults(program, None, words + derived), [("through", "d")])
        self.assertEqual(faults(program, None, words + second), [])
        self.assertEqual(faults(program, None, words + second + second), [("twice", "f"), ("needless", "f")])
        self.assertEqual(faults(program, None, words + second + words[:1]), [])
        self.assertEqual(faults(program, None, words + second + (("set", "s", "off"),)), [("missed", "f")])
        written = (("run", "e"), ("write", "e", "t", "off"), ("end", "e", None))
        self.assertEqual(faults(program, None, words + written + second + second), [("needless", "f")])

    def test_faults_of_real_starts(self):
        # e writes s, which d, c and itself read and f peeks; g says c, which reads s and d.
        writer = (("read", "s", "y"), ("read", "d", "x"), ("put", "z", "on"), ("write", "s", "z"))
        both = (("read", "s", "x"), ("read", "d", "y"), ("give", "y"))
        program = Program(WORDS, ("s",), (("d", COPY), ("c", both)),
                          (("g", say("c")), ("f", (("peek", "s", "x"), ("say", "x"))), ("e", writer)))
        for rule in all_rules():
            if rule.cut:
                due = [("missed", "f")]
                if rule.mode == "push":
                    due = [("through", "c")] + [("needless", "e")] * (rule.inner == "later") + due
                self.assertEqual(judged(program, rule, ("off",)), [due])

    def test_an_effect_that_has_no_run_yet(self):
        events = begin(example(), PUSH, ("off",)).events
        self.assertEqual(faults(example(), None, events[:1]), [])
        self.assertEqual(faults(example(), None, ()), [])

    def test_a_new_list_each_time(self):
        steps = history(example(), PUSH, ("off",), ON)
        first = faults(example(), steps[1].before, steps[1].events)
        self.assertIs(type(first), list)
        first.clear()
        self.assertEqual(faults(program=example(), before=steps[1].before, events=steps[1].events),
                         [("mixed", "e"), ("twice", "e")])


class RunsOfTest(unittest.TestCase):
    def test_nested_runs_in_the_order_in_which_they_start(self):
        rows = (("read", "s", "x"), ("peek", "d", "y"), ("write", "t", "x"), ("say", "y"), ("read", "s", "x"))
        program = Program(WORDS, ("s", "t"), (("d", COPY),), (("e", rows), ("f", (("read", "t", "x"), ("say", "x")))))
        steps = history(program, PUSH_ONCE, ("off", "off"), ON)
        self.assertEqual(short(steps[1].events),
                         "s:=on e( e<s=on e~d=off e>t=on t:=on f( f<t=on f!on )f e!off e<s=on )e d( d<s=on )d=on")
        self.assertEqual(runs_of(steps[1].events), [
            {"name": "e", "notes": (("s", "on"),), "peeks": (("d", "off"),), "says": ("off",), "writes": (("t", "on"),),
             "word": None},
            {"name": "f", "notes": (("t", "on"),), "peeks": (), "says": ("on",), "writes": (), "word": None},
            {"name": "d", "notes": (("s", "on"),), "peeks": (), "says": (), "writes": (), "word": "on"},
        ])
        self.assertEqual([run["name"] for run in runs_of(steps[0].events)], ["e", "d", "f"])

    def test_first_words_and_several_runs_of_a_name(self):
        events = (("set", "s", "off"), ("run", "e"), ("read", "e", "s", "off"), ("peek", "e", "t", "on"),
                  ("read", "e", "s", "on"), ("peek", "e", "t", "off"), ("say", "e", "on"), ("say", "e", "on"),
                  ("end", "e", None), ("run", "e"), ("peek", "e", "s", "on"), ("end", "e", None))
        self.assertEqual(runs_of(events), [
            {"name": "e", "notes": (("s", "off"),), "peeks": (("t", "on"),), "says": ("on", "on"), "writes": (),
             "word": None},
            {"name": "e", "notes": (), "peeks": (("s", "on"),), "says": (), "writes": (), "word": None},
        ])

    def test_no_runs(self):
        self.assertEqual(runs_of(()), [])
        self.assertEqual(runs_of((("set", "s", "on"),)), [])

    def test_new_values_each_time(self):
        events = begin(example(), PUSH, ("off",)).events
        first = runs_of(events)
        first[0].clear()
        first.clear()
        self.assertEqual([run["name"] for run in runs_of(events)], ["e", "d"])
        for run in runs_of(events=events):
            for key in ("notes", "peeks", "says", "writes"):
                self.assertIs(type(run[key]), tuple)


class ManyFaultsTest(unittest.TestCase):
    def test_faults_and_runs_of_made_up_histories(self):
        dice = random.Random(51)
        counts = dict.fromkeys(KINDS, 0)
        for _ in range(150):
            program = made_program(dice)
            for rule in all_rules():
                for each in self.steps(dice, program, rule):
                    found = faults(program, each.before, each.events)
                    self.assertEqual(found, due_faults(program, each.before, each.events))
                    for kind, _ in found:
                        counts[kind] += 1
                    self.check_runs(program, each)
        self.assertEqual(counts.pop("long"), 0)
        self.assertTrue(min(counts.values()) > 20, counts)

    def steps(self, dice, program, rule):
        """A start, a deed behind it, and a deed from a standing that no history reaches."""
        found = []
        try:
            found.append(begin(program, rule, made_words(dice, program), most=30))
            found.append(step(program, rule, found[0].after, made_deed(dice, program), most=30))
        except TooManyRuns:
            pass
        try:
            found.append(step(program, rule, made_standing(dice, program, rule), made_deed(dice, program), most=30))
        except TooManyRuns:
            pass
        return found

    def check_runs(self, program, each):
        runs = runs_of(each.events)
        self.assertEqual([run["name"] for run in runs], [event[1] for event in each.events if event[0] == "run"])
        last = {run["name"]: run for run in runs}
        for name, entry in zip(program.derived_names(), each.after[1]):
            if name in last:
                self.assertEqual((last[name]["word"], last[name]["notes"]), (entry[0], entry[2]))
        for name, pair in zip(program.effect_names(), each.after[2]):
            if name in last:
                self.assertEqual((last[name]["notes"], last[name]["peeks"]), pair)
                self.assertIsNone(last[name]["word"])
        for run in runs:
            words = {true_run(program, each.after[0], run["name"])["word"] is None}
            self.assertEqual(words, {run["word"] is None})
