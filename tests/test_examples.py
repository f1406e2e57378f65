"""The examples of the document."""

import unittest

from tests.samples import example
from toldonward.errors import InvalidProgram, TooManyRuns
from toldonward.judge import faults
from toldonward.live import Live
from toldonward.programs import Program
from toldonward.reasons import least_levers, least_reasons, shares
from toldonward.rules import Rule
from toldonward.spreading import begin, step
from toldonward.truth import true_run
from toldonward.why import reached, steering


def both():
    """The program of the last two examples."""
    rows = (("read", "s", "x"), ("if", "x", "on", (("read", "t", "x"),), ()), ("give", "x"))
    return Program(("off", "on"), ("s", "t"), (("d", rows),), ())


class ExamplesTest(unittest.TestCase):
    def test_cells(self):
        self.assertEqual(example().cells(), ("s", "d"))

    def test_row_paths(self):
        self.assertEqual(example().row_paths(), [
            ("derived", 0, 0), ("derived", 0, 1), ("effects", 0, 0), ("effects", 0, 1), ("effects", 0, 2),
        ])

    def test_a_derived_cell_that_reads_itself(self):
        with self.assertRaises(InvalidProgram) as caught:
            Program(("off", "on"), ("s",), (("d", (("read", "d", "x"),)),), ())
        self.assertEqual((caught.exception.part, caught.exception.path), ("rows", ("derived", 0, 0)))

    def test_true_run(self):
        self.assertEqual(true_run(example(), ("on",), "e")["notes"], (("s", "on"), ("d", "on")))

    def test_reasons(self):
        program = both()
        self.assertEqual(least_reasons(program, ("off", "off"), "d"), [("s",), ("t",)])
        self.assertEqual([least_levers(program, ("off", "off"), "d"), least_levers(program, ("on", "on"), "d")],
                         [[("s", "t")], [("s",), ("t",)]])
        self.assertEqual(shares(program, ("on", "off"), "d"), [(-1, 8), (3, 8)])

    def test_why(self):
        program = both()
        self.assertEqual([reached(program, ("off", "off"), "d"), reached(program, ("on", "off"), "d")],
                         [("s",), ("s", "t")])
        self.assertEqual(steering(program, ("off", "off"), "d", ("on", (), ())), [(("s", "t"), ("on", "on"))])

    def test_begin(self):
        first = begin(example(), Rule("push", True, "later"), ("off",))
        self.assertEqual(first.events, (
            ("set", "s", "off"), ("run", "e"), ("read", "e", "s", "off"), ("run", "d"), ("read", "d", "s", "off"),
            ("end", "d", "off"), ("read", "e", "d", "off"), ("say", "e", "off"), ("end", "e", None)))
        self.assertEqual(first.after, (
            ("off",), (("off", False, (("s", "off"),)),), (((("s", "off"), ("d", "off")), ()),), (("e", "d"), ("e",))))

    def test_step(self):
        rule = Rule("push", True, "later")
        first = begin(example(), rule, ("off",))
        second = step(example(), rule, first.after, ("write", "s", "on"))
        self.assertEqual(second.log, (("e", "off"), ("e", "on")))
        self.assertEqual(faults(example(), second.before, second.events), [("mixed", "e"), ("twice", "e")])

    def test_faults(self):
        rows = (("read", "d", "y"), ("read", "s", "x"), ("say", "y"))
        program = Program(("off", "on"), ("s",), example().derived, (("e", rows),))
        rule = Rule("push", True, "later")
        first = begin(program, rule, ("off",))
        second = step(program, rule, first.after, ("write", "s", "on"))
        self.assertEqual(faults(program, second.before, second.events), [("twice", "e"), ("needless", "e")])

    def test_live(self):
        live = Live(example(), Rule("pull", True, "later"), ("off",))
        self.assertEqual(live.write("s", "on"), [("e", "on")])

    def test_an_effect_that_writes_its_own_source(self):
        program = Program(("off", "on"), ("s",), (), (("e", (("read", "s", "x"), ("write", "s", "x"))),))
        with self.assertRaises(TooManyRuns) as caught:
            begin(program, Rule("level", False, "once"), ("off",), most=5)
        self.assertEqual(caught.exception.most, 5)
        self.assertEqual(begin(program, Rule("level", True, "once"), ("off",)).events, (
            ("set", "s", "off"), ("run", "e"), ("read", "e", "s", "off"), ("write", "e", "s", "off"),
            ("end", "e", None)))
