"""Point 17, and what points 14, 20 and 21 say of the mode "pull"."""

import unittest

from tests.samples import COPY, OFF, ON, SAME, WORDS, example, give, say
from tests.told import history, lines, short
from toldonward.errors import TooManyRuns
from toldonward.programs import Program
from toldonward.rules import Rule
from toldonward.spreading import begin, step

ONCE = Rule("pull", True, "once")
LATER = Rule("pull", True, "later")
ALL = Rule("pull", False, "later")
ALL_ONCE = Rule("pull", False, "once")


class QueueTest(unittest.TestCase):
    def test_each_effect_once(self):
        start = "s:=off e( e<s=off d( d<s=off )d=off e<d=off e!off )e"
        for rule in (ONCE, LATER, ALL, ALL_ONCE):
            self.assertEqual(lines(example(), rule, ("off",), ON),
                             [start, "s:=on e( e<s=on d( d<s=on )d=on e<d=on e!on )e"])
        self.assertEqual(lines(example(), LATER, ("off",), OFF), [start, ""])
        self.assertEqual(lines(example(), ALL, ("off",), OFF),
                         [start, "s:=off e( e<s=off d( d<s=off )d=off e<d=off e!off )e"])

    def test_a_word_that_stays_the_same(self):
        program = Program(WORDS, ("s",), (("d", SAME),), (("e", say("d")),))
        start = "s:=off e( d( d<s=off )d=off e<d=off e!off )e"
        steps = history(program, LATER, ("off",), ON)
        self.assertEqual([short(each.events) for each in steps], [start, "s:=on d( d<s=on )d=off"])
        self.assertEqual(steps[1].after, (
            ("on",), (("off", False, (("s", "on"),)),), (((("d", "off"),), ()),), (("d",), ("e",))))
        self.assertEqual(lines(program, ALL, ("off",), ON), [start, "s:=on e( d( d<s=on )d=off e<d=off e!off )e"])

    def test_stale_cells_that_turn_out_to_have_the_same_word(self):
        program = Program(WORDS, ("s",), (("d", SAME), ("c", give("d"))), (("e", say("c")),))
        steps = history(program, LATER, ("off",), ON)
        self.assertEqual(short(steps[1].events), "s:=on d( d<s=on )d=off")
        self.assertEqual(steps[1].after[1], (("off", False, (("s", "on"),)), ("off", False, (("d", "off"),))))
        self.assertEqual(steps[1].done, (("derived", 0, 0), ("derived", 0, 1)))
        self.assertEqual(lines(program, ALL, ("off",), ON)[1],
                         "s:=on e( c( d( d<s=on )d=off c<d=off )c=off e<c=off e!off )e")

    def test_the_pairs_are_looked_at_in_order_up_to_the_first_that_differs(self):
        program = Program(WORDS, ("s", "t"), (("a", give("s")), ("b", give("t"))),
                          (("e", (("read", "a", "x"), ("read", "b", "y"), ("say", "y"))),))
        batch = ("batch", (("s", "on"), ("t", "on")))
        self.assertEqual(lines(program, LATER, ("off", "off"), batch)[1],
                         "s:=on t:=on a( a<s=on )a=on e( e<a=on b( b<t=on )b=on e<b=on e!on )e")
        self.assertEqual(lines(program, LATER, ("off", "off"), ("write", "t", "on"))[1],
                         "t:=on b( b<t=on )b=on e( e<a=off e<b=on e!on )e")
        self.assertEqual(lines(program, ALL, ("off", "off"), batch)[1],
                         "s:=on t:=on e( a( a<s=on )a=on e<a=on b( b<t=on )b=on e<b=on e!on )e")

    def test_a_source_that_differs_comes_ahead_of_a_stale_cell(self):
        both = (("read", "t", "x"), ("read", "d", "y"), ("give", "y"))
        program = Program(WORDS, ("s", "t"), (("d", give("s")), ("c", both)), (("e", say("c")),))
        batch = ("batch", (("s", "on"), ("t", "on")))
        self.assertEqual(lines(program, LATER, ("off", "off"), batch)[1],
                         "s:=on t:=on c( c<t=on d( d<s=on )d=on c<d=on )c=on e( e<c=on e!on )e")

    def test_the_order_of_the_queue(self):
        for names, due in ((("e", "f"), ["e", "f"]), (("f", "e"), ["f", "e"])):
            rows = {"e": say("d"), "f": say("s")}
            program = Program(WORDS, ("s",), (("d", COPY),), tuple((name, rows[name]) for name in names))
            last = history(program, LATER, ("off",), ON)[1]
            self.assertEqual([name for name, _ in last.log], due)

    def test_a_cell_marks_its_own_readers_before_the_next_one(self):
        # The readers of s are a and b, those of a and b are f and e: e is put in the queue behind f.
        program = Program(WORDS, ("s",), (("b", give("s")), ("a", give("s"))),
                          (("f", say("a")), ("e", say("b"))))
        steps = history(program, ALL, ("off",), ON)
        self.assertEqual(steps[0].after[3], (("a", "b"), ("e",), ("f",)))
        self.assertEqual([name for name, _ in steps[1].log], ["f", "e"])
        self.assertEqual(short(steps[1].events),
                         "s:=on f( a( a<s=on )a=on f<a=on f!on )f e( b( b<s=on )b=on e<b=on e!on )e")

    def test_a_body_that_reads_other_cells_after_another_word(self):
        rows = (("read", "s", "x"), ("if", "x", "on", (("read", "t", "x"),), (("read", "u", "x"),)), ("give", "x"))
        program = Program(WORDS, ("s", "t", "u"), (("d", rows),), (("e", say("d")),))
        steps = history(program, LATER, ("off", "on", "off"), ("write", "t", "off"), ("write", "t", "on"), ON,
                        ("write", "u", "on"))
        self.assertEqual([short(each.events) for each in steps], [
            "s:=off t:=on u:=off e( d( d<s=off d<u=off )d=off e<d=off e!off )e",
            "t:=off", "t:=on",
            "s:=on d( d<s=on d<t=on )d=on e( e<d=on e!on )e",
            "u:=on",
        ])


class StaleTest(unittest.TestCase):
    PROGRAM = Program(WORDS, ("s",), (("d", COPY), ("c", give("d"))), ())
    READ = ("read", "c")

    def entries(self, steps):
        return [[entry and (entry[0], entry[1]) for entry in each.after[1]] for each in steps]

    def test_cells_stay_stale_until_they_are_asked(self):
        steps = history(self.PROGRAM, LATER, ("off",), self.READ, ON, self.READ, self.READ)
        self.assertEqual([short(each.events) for each in steps], [
            "s:=off", "c( d( d<s=off )d=off c<d=off )c=off", "s:=on", "d( d<s=on )d=on c( c<d=on )c=on", "",
        ])
        self.assertEqual([each.told for each in steps], [None, "off", None, "on", "on"])
        self.assertEqual(self.entries(steps), [
            [None, None], [("off", False), ("off", False)], [("off", True), ("off", True)],
            [("on", False), ("on", False)], [("on", False), ("on", False)],
        ])

    def test_a_stale_cell_is_passed_over(self):
        steps = history(self.PROGRAM, LATER, ("off",), self.READ, ON, OFF, self.READ)
        self.assertEqual([short(each.events) for each in steps[2:]], ["s:=on", "s:=off", ""])
        self.assertEqual(steps[4].told, "off")
        self.assertEqual(self.entries(steps)[3:], [[("off", True), ("off", True)], [("off", False), ("off", False)]])
        self.assertEqual(steps[4].done, ())

    def test_without_cut_a_stale_cell_is_worked_out(self):
        steps = history(self.PROGRAM, ALL, ("off",), self.READ, ON, OFF, self.READ)
        self.assertEqual(short(steps[4].events), "c( d( d<s=off )d=off c<d=off )c=off")

    def test_a_cell_in_the_middle_alone(self):
        steps = history(self.PROGRAM, LATER, ("off",), self.READ, ON, ("read", "d"), self.READ)
        self.assertEqual([short(each.events) for each in steps[3:]], ["d( d<s=on )d=on", "c( c<d=on )c=on"])
        self.assertEqual(self.entries(steps)[3], [("on", False), ("off", True)])

    def test_asking_marks_nothing_and_runs_no_effect(self):
        program = Program(WORDS, ("s",), (("d", COPY),), (("e", (("peek", "d", "x"), ("say", "x"))),))
        steps = history(program, LATER, ("off",), ON, ("read", "d"))
        self.assertEqual([short(each.events) for each in steps],
                         ["s:=off e( d( d<s=off )d=off e~d=off e!off )e", "s:=on", "d( d<s=on )d=on"])

    def test_peeks_refresh_too(self):
        rows = (("read", "t", "x"), ("peek", "d", "y"), ("say", "y"))
        program = Program(WORDS, ("s", "t"), (("d", COPY),), (("e", rows),))
        steps = history(program, LATER, ("off", "off"), ON, ("write", "t", "on"))
        self.assertEqual([short(each.events) for each in steps[1:]],
                         ["s:=on", "t:=on e( e<t=on d( d<s=on )d=on e~d=on e!on )e"])


class WriteTest(unittest.TestCase):
    ROWS = (("read", "s", "x"), ("put", "y", "on"), ("write", "s", "y"), ("say", "x"))
    PROGRAM = Program(WORDS, ("s",), (), (("e", ROWS),))

    def test_an_effect_that_its_own_write_puts_in_the_queue(self):
        self.assertEqual(lines(self.PROGRAM, ONCE, ("off",), OFF), [
            "s:=off e( e<s=off e>s=on s:=on e!off )e e( e<s=on e>s=on e!on )e",
            "s:=off e( e<s=off e>s=on s:=on e!off )e e( e<s=on e>s=on e!on )e",
        ])

    def test_a_queue_that_never_ends(self):
        for rule in (ALL, ALL_ONCE):
            with self.assertRaises(TooManyRuns):
                begin(self.PROGRAM, rule, ("off",))

    def test_later(self):
        self.assertEqual(lines(self.PROGRAM, LATER, ("off",)),
                         ["s:=off e( e<s=off e>s=on e!off )e s:=on e( e<s=on e>s=on e!on )e"])

    def test_a_write_amid_a_run_marks_cells_that_the_run_asks_again(self):
        rows = (("read", "d", "x"), ("put", "y", "on"), ("write", "s", "y"), ("read", "d", "z"), ("say", "z"))
        program = Program(WORDS, ("s",), (("d", COPY),), (("e", rows),))
        self.assertEqual(lines(program, ONCE, ("off",)), [
            "s:=off e( d( d<s=off )d=off e<d=off e>s=on s:=on d( d<s=on )d=on e<d=on e!on )e "
            "e( e<d=on e>s=on e<d=on e!on )e",
        ])
        self.assertEqual(lines(program, LATER, ("off",)), [
            "s:=off e( d( d<s=off )d=off e<d=off e>s=on e<d=off e!off )e s:=on d( d<s=on )d=on "
            "e( e<d=on e>s=on e<d=on e!on )e",
        ])

    def test_a_word_that_is_written_back_runs_nothing(self):
        # The second write restores what e noted, so e is in the queue but is not run again.
        rows = (("read", "s", "x"), ("put", "y", "on"), ("write", "s", "y"), ("write", "s", "x"))
        program = Program(WORDS, ("s",), (), (("e", rows),))
        self.assertEqual(lines(program, ONCE, ("off",)), ["s:=off e( e<s=off e>s=on s:=on e>s=off s:=off )e"])

    def test_other_effects_in_the_queue(self):
        effects = (("e", (("read", "s", "x"), ("write", "t", "x"), ("say", "x"))), ("f", say("t")))
        program = Program(WORDS, ("s", "t"), (), effects)
        self.assertEqual(lines(program, ONCE, ("off", "off"), ON), [
            "s:=off t:=off e( e<s=off e>t=off e!off )e f( f<t=off f!off )f",
            "s:=on e( e<s=on e>t=on t:=on e!on )e f( f<t=on f!on )f",
        ])
        self.assertEqual(lines(program, LATER, ("off", "off"), ON)[1],
                         "s:=on e( e<s=on e>t=on e!on )e t:=on f( f<t=on f!on )f")


class StartTest(unittest.TestCase):
    def test_the_queue_is_all_effects(self):
        rows = (("read", "s", "x"), ("put", "y", "on"), ("write", "s", "y"))
        program = Program(WORDS, ("s",), (), (("e", rows), ("f", say("s")), ("g", ())))
        self.assertEqual(lines(program, ONCE, ("off",)),
                         ["s:=off e( e<s=off e>s=on s:=on )e f( f<s=on f!on )f g( )g e( e<s=on e>s=on )e"])
        self.assertEqual(lines(program, LATER, ("off",)),
                         ["s:=off e( e<s=off e>s=on )e f( f<s=off f!off )f g( )g s:=on e( e<s=on e>s=on )e "
                          "f( f<s=on f!on )f"])

    def test_no_derived_cell_is_worked_out_that_nothing_asks(self):
        program = Program(WORDS, ("s",), (("d", COPY), ("c", COPY)), (("e", say("c")),))
        self.assertEqual(begin(program, LATER, ("on",)).after[1], (None, ("on", False, (("s", "on"),))))


class OddStandingTest(unittest.TestCase):
    def test_a_stale_cell_stops_the_marking(self):
        standing = (("off",), (("off", True, (("s", "off"),)),), (((("d", "off"),), ()),), (("d",), ("e",)))
        program = Program(WORDS, ("s",), (("d", COPY),), (("e", say("d")),))
        last = step(program, LATER, standing, ON)
        self.assertEqual((short(last.events), last.after), ("s:=on", (("on",),) + standing[1:]))

    def test_a_cell_that_is_not_stale_behind_one_that_is(self):
        standing = (("on",), (("off", True, (("s", "off"),)), ("off", False, (("d", "off"),))),
                    (((("c", "off"),), ()),), (("d",), ("c",), ("e",)))
        program = Program(WORDS, ("s",), (("d", COPY), ("c", give("d"))), (("e", say("c")),))
        last = step(program, LATER, standing, ("read", "c"))
        self.assertEqual((last.told, last.events, last.after), ("off", (), standing))
        # d is passed over when s is written, but c is asked through the notes of e.
        self.assertEqual(short(step(program, LATER, standing, OFF).events), "s:=off")
        self.assertEqual(short(step(program, LATER, standing, ("read", "d")).events), "d( d<s=on )d=on")

    def test_notes_with_another_word_than_the_cell(self):
        standing = (("on",), (("off", True, (("s", "on"),)),), (((("d", "on"), ("s", "on")), ()),),
                    (("e", "d"), ("e",)))
        last = step(example(), LATER, standing, OFF)
        self.assertEqual(short(last.events), "s:=off d( d<s=off )d=off e( e<s=off e<d=off e!off )e")
        last = step(example(), LATER, standing, ("read", "d"))
        self.assertEqual((last.told, last.events, last.after[1]), ("off", (), (("off", False, (("s", "on"),)),)))
