"""The examples of the document."""

import unittest

from tests.samples import example
from toldonward.errors import InvalidProgram
from toldonward.programs import Program
from toldonward.reasons import least_levers, least_reasons, shares
from toldonward.truth import true_run
from toldonward.why import reached, steering


def both():
    """The program of the last two examples."""
    rows = (("read", "s", "x"), ("if", "x", "on", (("read", "t", "x"),), ()), ("give", "x"))
    return Program(("off", "on"), ("s", "t"), (("d", rows),), ())


class ExamplesTest(unittest.TestCase):
    def test_cells(self):
        self.assertEqual(example().cells(), ("s", "d"))

    def test_row_paths(self):
        self.assertEqual(example().row_paths(), [
            ("derived", 0, 0), ("derived", 0, 1), ("effects", 0, 0), ("effects", 0, 1), ("effects", 0, 2),
        ])

    def test_a_derived_cell_that_reads_itself(self):
        with self.assertRaises(InvalidProgram) as caught:
            Program(("off", "on"), ("s",), (("d", (("read", "d", "x"),)),), ())
        self.assertEqual((caught.exception.part, caught.exception.path), ("rows", ("derived", 0, 0)))

    def test_true_run(self):
        self.assertEqual(true_run(example(), ("on",), "e")["notes"], (("s", "on"), ("d", "on")))

    def test_reasons(self):
        program = both()
        self.assertEqual(least_reasons(program, ("off", "off"), "d"), [("s",), ("t",)])
        self.assertEqual([least_levers(program, ("off", "off"), "d"), least_levers(program, ("on", "on"), "d")],
                         [[("s", "t")], [("s",), ("t",)]])
        self.assertEqual(shares(program, ("on", "off"), "d"), [(-1, 8), (3, 8)])

    def test_why(self):
        program = both()
        self.assertEqual([reached(program, ("off", "off"), "d"), reached(program, ("on", "off"), "d")],
                         [("s",), ("s", "t")])
        self.assertEqual(steering(program, ("off", "off"), "d", ("on", (), ())), [(("s", "t"), ("on", "on"))])
