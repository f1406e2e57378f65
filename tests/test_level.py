"""Point 18, and what points 14, 19, 20 and 21 say of the mode "level"."""

import unittest

from tests.samples import COPY, OFF, ON, SAME, WORDS, example, give, say
from tests.told import history, lines, short
from toldonward.errors import TooManyRuns
from toldonward.programs import Program
from toldonward.rules import Rule
from toldonward.spreading import begin, step

ONCE = Rule("level", True, "once")
LATER = Rule("level", True, "later")
ALL = Rule("level", False, "later")
ALL_ONCE = Rule("level", False, "once")


class OrderTest(unittest.TestCase):
    def test_derived_cells_then_effects(self):
        start = "s:=off e( e<s=off d( d<s=off )d=off e<d=off e!off )e"
        for rule in (ONCE, LATER, ALL, ALL_ONCE):
            self.assertEqual(lines(example(), rule, ("off",), ON),
                             [start, "s:=on d( d<s=on )d=on e( e<s=on e<d=on e!on )e"])
        self.assertEqual(lines(example(), LATER, ("off",), OFF), [start, ""])
        self.assertEqual(lines(example(), ALL, ("off",), OFF),
                         [start, "s:=off d( d<s=off )d=off e( e<s=off e<d=off e!off )e"])

    def test_a_word_that_stays_the_same(self):
        program = Program(WORDS, ("s",), (("d", SAME), ("c", give("d"))), (("e", say("c")),))
        start = "s:=off e( c( d( d<s=off )d=off c<d=off )c=off e<c=off e!off )e"
        self.assertEqual(lines(program, LATER, ("off",), ON), [start, "s:=on d( d<s=on )d=off"])
        self.assertEqual(lines(program, ALL, ("off",), ON),
                         [start, "s:=on d( d<s=on )d=off c( c<d=off )c=off e( e<c=off e!off )e"])

    def test_the_order_of_the_program_not_that_of_the_readers(self):
        program = Program(WORDS, ("s",), (("a", COPY), ("b", COPY)),
                          (("e", (("read", "b", "x"), ("read", "a", "y"), ("say", "x"))), ("f", say("s"))))
        steps = history(program, LATER, ("off",), ON)
        self.assertEqual(steps[0].after[3], (("b", "a", "f"), ("e",), ("e",)))
        self.assertEqual(short(steps[1].events),
                         "s:=on a( a<s=on )a=on b( b<s=on )b=on e( e<b=on e<a=on e!on )e f( f<s=on f!on )f")

    def test_cells_that_were_never_worked_out_are_passed_over(self):
        program = Program(WORDS, ("s",), (("a", COPY), ("b", COPY), ("c", give("b"))), (("e", say("b")),))
        self.assertEqual(lines(program, LATER, ("off",), ON, ("read", "c"), OFF)[1:], [
            "s:=on b( b<s=on )b=on e( e<b=on e!on )e", "c( c<b=on )c=on",
            "s:=off b( b<s=off )b=off c( c<b=off )c=off e( e<b=off e!off )e",
        ])

    def test_a_body_that_reads_other_cells_after_another_word(self):
        rows = (("read", "s", "x"), ("if", "x", "on", (("read", "b", "x"),), ()), ("give", "x"))
        program = Program(WORDS, ("s", "t"), (("b", give("t")), ("d", rows)), (("e", say("d")),))
        steps = history(program, LATER, ("off", "on"), ("write", "t", "off"), ("write", "t", "on"), ON,
                        ("write", "t", "off"))
        self.assertEqual([short(each.events) for each in steps], [
            "s:=off t:=on e( d( d<s=off )d=off e<d=off e!off )e", "t:=off", "t:=on",
            "s:=on d( d<s=on b( b<t=on )b=on d<b=on )d=on e( e<d=on e!on )e",
            "t:=off b( b<t=off )b=off d( d<s=on d<b=off )d=off e( e<d=off e!off )e",
        ])

    def test_a_body_that_no_longer_reads_a_cell(self):
        rows = (("read", "d", "x"), ("if", "x", "off", (("read", "s", "y"),), ()), ("say", "x"))
        program = Program(WORDS, ("s",), (("d", COPY),), (("e", rows),))
        self.assertEqual(lines(program, LATER, ("off",), ON, OFF)[1:], [
            "s:=on d( d<s=on )d=on e( e<d=on e!on )e", "s:=off d( d<s=off )d=off e( e<d=off e<s=off e!off )e",
        ])


class WriteTest(unittest.TestCase):
    PROGRAM = Program(WORDS, ("s", "t"), (), (
        ("e", (("read", "s", "x"), ("write", "t", "x"))), ("f", (("read", "s", "x"), ("read", "t", "y"), ("say", "y"))),
    ))

    def test_a_write_inside_a_run_has_changed_cells_of_its_own(self):
        self.assertEqual(lines(self.PROGRAM, ONCE, ("off", "off"), ON)[1],
                         "s:=on e( e<s=on e>t=on t:=on f( f<s=on f<t=on f!on )f )e f( f<s=on f<t=on f!on )f")

    def test_later(self):
        self.assertEqual(lines(self.PROGRAM, LATER, ("off", "off"), ON)[1],
                         "s:=on e( e<s=on e>t=on )e f( f<s=on f<t=off f!off )f t:=on f( f<s=on f<t=on f!on )f")

    def test_the_notes_when_the_turn_comes(self):
        rows = (("read", "t", "x"), ("if", "x", "off", (("read", "s", "y"),), ()), ("say", "x"))
        program = Program(WORDS, ("s", "t"), (), (self.PROGRAM.effects[0], ("f", rows)))
        self.assertEqual(lines(program, ONCE, ("off", "off"), ON, OFF)[1:], [
            "s:=on e( e<s=on e>t=on t:=on f( f<t=on f!on )f )e",
            "s:=off e( e<s=off e>t=off t:=off f( f<t=off f<s=off f!off )f )e f( f<t=off f<s=off f!off )f",
        ])

    def test_derived_cells_inside_a_write(self):
        program = Program(WORDS, ("s", "t"), (("d", give("t")),),
                          (("e", (("read", "s", "x"), ("write", "t", "x"), ("read", "d", "y"), ("say", "y"))),))
        self.assertEqual(lines(program, ONCE, ("off", "off"), ON)[1],
                         "s:=on e( e<s=on e>t=on t:=on d( d<t=on )d=on e<d=on e!on )e")
        self.assertEqual(lines(program, LATER, ("off", "off"), ON)[1],
                         "s:=on e( e<s=on e>t=on e<d=off e!off )e t:=on d( d<t=on )d=on "
                         "e( e<s=on e>t=on e<d=on e!on )e")

    def test_an_effect_that_is_run_amid_its_run_is_marked(self):
        rows = (("read", "s", "x"), ("put", "y", "on"), ("write", "s", "y"), ("say", "x"))
        program = Program(WORDS, ("s",), (("d", COPY),), (("e", rows), ("f", say("d"))))
        self.assertEqual(lines(program, ONCE, ("on",), OFF)[1],
                         "s:=off d( d<s=off )d=off e( e<s=off e>s=on s:=on d( d<s=on )d=on f( f<d=on f!on )f e!off )e "
                         "e( e<s=on e>s=on e!on )e f( f<d=on f!on )f")
        with self.assertRaises(TooManyRuns):
            begin(program, ALL_ONCE, ("on",))

    def test_notes_so_far(self):
        rows = (("put", "y", "on"), ("write", "s", "y"), ("read", "s", "x"), ("say", "x"))
        program = Program(WORDS, ("s",), (), (("e", rows),))
        self.assertEqual(lines(program, ONCE, ("off",), OFF), [
            "s:=off e( e>s=on s:=on e<s=on e!on )e", "s:=off e( e>s=on s:=on e<s=on e!on )e",
        ])

    def test_waiting_writes_one_by_one(self):
        rows = (("read", "s", "x"), ("write", "t", "x"), ("write", "u", "x"), ("write", "t", "z"))
        both = (("read", "t", "x"), ("read", "u", "y"), ("say", "x"), ("say", "y"))
        program = Program(WORDS, ("s", "t", "u"), (), (("e", rows), ("f", both)))
        self.assertEqual(lines(program, LATER, ("off", "off", "off"), ON)[1],
                         "s:=on e( e<s=on e>t=on e>u=on e>t=off )e t:=on f( f<t=on f<u=off f!on f!off )f "
                         "u:=on f( f<t=on f<u=on f!on f!on )f t:=off f( f<t=off f<u=on f!off f!on )f")


class OddStandingTest(unittest.TestCase):
    def test_notes_of_cells_that_the_body_does_not_read(self):
        program = Program(WORDS, ("s", "t"), (("d", COPY), ("c", COPY)), (("e", say("d")), ("f", ())))
        standing = (("off", "off"), (("on", False, (("t", "on"),)), ("on", False, (("d", "off"),))),
                    ((), (("t", "on"),)), ((), ("f", "d"), ("c",), ()))
        standing = standing[:2] + ((((), ()), ((("t", "off"),), ())),) + standing[3:]
        self.assertEqual(short(step(program, LATER, standing, ("write", "t", "on")).events),
                         "t:=on d( d<s=off )d=off c( c<s=off )c=off f( )f")
        self.assertEqual(short(step(program, LATER, standing, ON).events), "s:=on")
