"""Point 16, and what points 14, 19, 20 and 21 say of the mode "push"."""

import unittest

from tests.samples import COPY, OFF, ON, WORDS, example, say
from tests.told import history, lines, short
from toldonward.errors import TooManyRuns
from toldonward.programs import Program
from toldonward.rules import Rule
from toldonward.spreading import begin, step

ONCE = Rule("push", True, "once")
LATER = Rule("push", True, "later")
ALL = Rule("push", False, "later")
ALL_ONCE = Rule("push", False, "once")


def own_write():
    """An effect that reads s and then writes "on" to it."""
    rows = (("read", "s", "x"), ("put", "y", "on"), ("write", "s", "y"), ("say", "x"))
    return Program(WORDS, ("s",), (), (("e", rows),))


class TellingTest(unittest.TestCase):
    def test_the_readers_in_order(self):
        for rule in (ONCE, LATER, ALL, ALL_ONCE):
            self.assertEqual(lines(example(), rule, ("off",), ON), [
                "s:=off e( e<s=off d( d<s=off )d=off e<d=off e!off )e",
                "s:=on e( e<s=on e<d=off e!off )e d( d<s=on )d=on e( e<s=on e<d=on e!on )e",
            ])

    def test_a_word_that_stays_the_same(self):
        program = Program(WORDS, ("s",), (("d", (("read", "s", "x"), ("give", "y"))),), (("e", say("d")),))
        start = "s:=off e( d( d<s=off )d=off e<d=off e!off )e"
        self.assertEqual(lines(program, LATER, ("off",), ON, ON), [start, "s:=on d( d<s=on )d=off", ""])
        again = "s:=on d( d<s=on )d=off e( e<d=off e!off )e"
        self.assertEqual(lines(program, ALL, ("off",), ON, ON), [start, again, again])

    def test_a_word_that_the_source_holds(self):
        steps = history(example(), LATER, ("off",), OFF)
        self.assertEqual((steps[1].events, steps[1].log, steps[1].done), ((), (), ()))
        self.assertEqual(steps[1].after, steps[0].after)
        self.assertEqual(lines(example(), ALL, ("off",), OFF)[1],
                         "s:=off e( e<s=off e<d=off e!off )e d( d<s=off )d=off e( e<s=off e<d=off e!off )e")

    def test_a_name_that_was_run_in_the_meantime_and_contains_the_cell_again(self):
        rows = (("read", "d", "y"), ("read", "s", "x"), ("say", "y"))
        program = Program(WORDS, ("s",), (("d", COPY),), (("e", rows),))
        steps = history(program, LATER, ("off",), ON)
        self.assertEqual(short(steps[1].events),
                         "s:=on d( d<s=on )d=on e( e<d=on e<s=on e!on )e e( e<d=on e<s=on e!on )e")
        self.assertEqual(steps[1].log, (("e", "on"), ("e", "on")))
        self.assertEqual(steps[1].after[3], (("d", "e"), ("e",)))

    def test_a_name_that_does_not_contain_the_cell_any_more(self):
        rows = (("read", "d", "x"), ("if", "x", "off", (("read", "s", "y"),), ()), ("say", "x"))
        program = Program(WORDS, ("s",), (("d", COPY),), (("e", rows),))
        steps = history(program, LATER, ("off",), ON, OFF)
        self.assertEqual(steps[0].after[3], (("d", "e"), ("e",)))
        self.assertEqual(short(steps[1].events), "s:=on d( d<s=on )d=on e( e<d=on e!on )e")
        self.assertEqual(steps[1].after[3], (("d",), ("e",)))
        # When s is written again, e is no reader of s yet when the readers are taken.
        self.assertEqual(short(steps[2].events), "s:=off d( d<s=off )d=off e( e<d=off e<s=off e!off )e")

    def test_a_derived_cell_tells_its_readers_before_the_next_name(self):
        chain = (("read", "d", "x"), ("give", "x"))
        rows = (("read", "b", "x"), ("read", "c", "y"), ("say", "y"))
        program = Program(WORDS, ("s",), (("d", COPY), ("c", chain), ("b", COPY)), (("e", rows),))
        self.assertEqual(lines(program, LATER, ("off",), ON), [
            "s:=off e( b( b<s=off )b=off e<b=off c( d( d<s=off )d=off c<d=off )c=off e<c=off e!off )e",
            "s:=on b( b<s=on )b=on e( e<b=on e<c=off e!off )e d( d<s=on )d=on c( c<d=on )c=on "
            "e( e<b=on e<c=on e!on )e",
        ])

    def test_a_body_that_reads_other_cells_after_another_word(self):
        rows = (("read", "s", "x"), ("if", "x", "on", (("read", "t", "x"),), (("read", "u", "x"),)), ("give", "x"))
        program = Program(WORDS, ("s", "t", "u"), (("d", rows),), (("e", say("d")),))
        steps = history(program, LATER, ("off", "on", "off"), ("write", "t", "off"), ("write", "t", "on"), ON,
                        ("write", "u", "on"), ("write", "t", "off"))
        self.assertEqual([short(each.events) for each in steps], [
            "s:=off t:=on u:=off e( d( d<s=off d<u=off )d=off e<d=off e!off )e",
            "t:=off", "t:=on",
            "s:=on d( d<s=on d<t=on )d=on e( e<d=on e!on )e",
            "u:=on",
            "t:=off d( d<s=on d<t=off )d=off e( e<d=off e!off )e",
        ])
        self.assertEqual(steps[0].after[3], (("d",), (), ("d",), ("e",)))
        self.assertEqual(steps[3].after[3], (("d",), ("d",), (), ("e",)))
        self.assertEqual(steps[3].after[1], (("on", False, (("s", "on"), ("t", "on"))),))

    def test_an_effect_without_notes_is_told_of_nothing(self):
        program = Program(WORDS, ("s",), (), (("e", (("peek", "s", "x"), ("say", "x"))), ("f", ())))
        self.assertEqual(lines(program, ALL, ("off",), ON), ["s:=off e( e~s=off e!off )e f( )f", "s:=on"])


class MarkTest(unittest.TestCase):
    def test_an_effect_that_is_told_amid_its_run(self):
        self.assertEqual(lines(own_write(), ONCE, ("off",), OFF), [
            "s:=off e( e<s=off e>s=on s:=on e!off )e e( e<s=on e>s=on e!on )e",
            "s:=off e( e<s=off e>s=on s:=on e!off )e e( e<s=on e>s=on e!on )e",
        ])

    def test_marks_in_the_run_behind_a_mark(self):
        for rule in (ALL_ONCE, ALL):
            with self.assertRaises(TooManyRuns) as caught:
                begin(own_write(), rule, ("off",), most=7)
            self.assertEqual(caught.exception.most, 7)

    def test_notes_so_far(self):
        # The write stands ahead of the read, so s is not in the notes when it is written.
        rows = (("put", "y", "on"), ("write", "s", "y"), ("read", "s", "x"), ("say", "x"))
        program = Program(WORDS, ("s",), (), (("e", rows),))
        self.assertEqual(lines(program, ONCE, ("off",), OFF), [
            "s:=off e( e>s=on s:=on e<s=on e!on )e", "s:=off e( e>s=on s:=on e<s=on e!on )e",
        ])

    def test_a_run_of_another_effect_stands_between(self):
        first = (("read", "s", "x"), ("write", "t", "x"))
        second = (("read", "t", "y"), ("if", "y", "off", (("put", "z", "on"), ("write", "s", "z")), ()))
        program = Program(WORDS, ("s", "t"), (), (("e", first), ("f", second)))
        self.assertEqual(lines(program, ONCE, ("on", "on"), OFF)[1],
                         "s:=off e( e<s=off e>t=off t:=off f( f<t=off f>s=on s:=on )f )e "
                         "e( e<s=on e>t=on t:=on f( f<t=on )f )e")
        self.assertEqual(lines(program, LATER, ("on", "on"), OFF)[1],
                         "s:=off e( e<s=off e>t=off )e t:=off f( f<t=off f>s=on )f s:=on e( e<s=on e>t=on )e "
                         "t:=on f( f<t=on )f")

    def test_a_mark_is_worked_off_before_what_stood_behind_the_run(self):
        # f reads s, too: it has its turn in each telling of s, behind the inner one.
        program = Program(WORDS, ("s",), (), own_write().effects + (("f", say("s")),))
        self.assertEqual(lines(program, ONCE, ("on",), OFF)[1],
                         "s:=off e( e<s=off e>s=on s:=on f( f<s=on f!on )f e!off )e e( e<s=on e>s=on e!on )e "
                         "f( f<s=on f!on )f")

    def test_later_writes_mark_nothing(self):
        self.assertEqual(lines(own_write(), LATER, ("off",)), [
            "s:=off e( e<s=off e>s=on e!off )e s:=on e( e<s=on e>s=on e!on )e",
        ])


class InnerTest(unittest.TestCase):
    PROGRAM = Program(WORDS, ("s", "t"), (), (
        ("e", (("read", "s", "x"), ("write", "t", "x"), ("say", "x"))), ("f", say("t")),
    ))

    def test_once(self):
        self.assertEqual(lines(self.PROGRAM, ONCE, ("off", "off"), ON), [
            "s:=off t:=off e( e<s=off e>t=off e!off )e f( f<t=off f!off )f",
            "s:=on e( e<s=on e>t=on t:=on f( f<t=on f!on )f e!on )e",
        ])

    def test_later(self):
        self.assertEqual(lines(self.PROGRAM, LATER, ("off", "off"), ON), [
            "s:=off t:=off e( e<s=off e>t=off e!off )e f( f<t=off f!off )f",
            "s:=on e( e<s=on e>t=on e!on )e t:=on f( f<t=on f!on )f",
        ])

    def test_at_a_start_effects_that_were_never_run_are_told_of_nothing(self):
        self.assertEqual(lines(self.PROGRAM, ONCE, ("on", "off")),
                         ["s:=on t:=off e( e<s=on e>t=on t:=on e!on )e f( f<t=on f!on )f"])
        self.assertEqual(lines(self.PROGRAM, LATER, ("on", "off")),
                         ["s:=on t:=off e( e<s=on e>t=on e!on )e f( f<t=off f!off )f t:=on f( f<t=on f!on )f"])

    def test_writes_wait_behind_others(self):
        effects = (
            ("e", (("read", "s", "x"), ("write", "t", "x"), ("write", "u", "x"))),
            ("f", (("read", "t", "x"), ("write", "v", "x"))), ("g", say("u")), ("h", say("v")),
        )
        program = Program(WORDS, ("s", "t", "u", "v"), (), effects)
        self.assertEqual(lines(program, LATER, ("off",) * 4, ON)[1],
                         "s:=on e( e<s=on e>t=on e>u=on )e t:=on f( f<t=on f>v=on )f u:=on g( g<u=on g!on )g "
                         "v:=on h( h<v=on h!on )h")
        self.assertEqual(lines(program, ONCE, ("off",) * 4, ON)[1],
                         "s:=on e( e<s=on e>t=on t:=on f( f<t=on f>v=on v:=on h( h<v=on h!on )h )f e>u=on u:=on "
                         "g( g<u=on g!on )g )e")

    def test_cut_decides_when_the_write_takes_place(self):
        rows = (("read", "s", "x"), ("put", "y", "on"), ("write", "t", "y"), ("write", "t", "y"), ("write", "t", "z"))
        program = Program(WORDS, ("s", "t"), (), (("e", rows), ("f", say("t"))))
        run = "e( e<s=on e>t=on e>t=on e>t=off )e"
        self.assertEqual(lines(program, LATER, ("off", "off"), ON)[1],
                         "s:=on " + run + " t:=on f( f<t=on f!on )f t:=off f( f<t=off f!off )f")
        self.assertEqual(lines(program, ALL, ("off", "off"), ON)[1],
                         "s:=on " + run + " t:=on f( f<t=on f!on )f t:=on f( f<t=on f!on )f t:=off f( f<t=off f!off )f")
        self.assertEqual(lines(program, ONCE, ("off", "off"), ON)[1],
                         "s:=on e( e<s=on e>t=on t:=on f( f<t=on f!on )f e>t=on e>t=off t:=off f( f<t=off f!off )f )e")


class OddStandingTest(unittest.TestCase):
    def test_readers_in_an_order_that_no_history_reaches(self):
        standing = (("off",), (("off", False, (("s", "off"),)),), (((("d", "off"), ("s", "off")), ()),),
                    (("d", "e"), ("e",)))
        self.assertEqual(short(step(example(), LATER, standing, ON).events),
                         "s:=on d( d<s=on )d=on e( e<s=on e<d=on e!on )e e( e<s=on e<d=on e!on )e")

    def test_notes_of_cells_that_the_body_does_not_read(self):
        program = Program(WORDS, ("s", "t"), (("d", COPY),), (("e", say("d")),))
        standing = (("off", "off"), (("on", False, (("t", "on"),)),), (((("t", "on"),), (("d", "off"),)),),
                    ((), ("e", "d"), ()))
        self.assertEqual(short(step(program, LATER, standing, ("write", "t", "on")).events),
                         "t:=on e( e<d=on e!on )e d( d<s=off )d=off e( e<d=off e!off )e")
        after = step(program, LATER, standing, ON).after
        self.assertEqual(after, (("on", "off"),) + standing[1:])
