"""The examples of the document that use errors, programs and truth alone."""

import unittest

from tests.samples import example
from toldonward.errors import InvalidProgram
from toldonward.programs import Program
from toldonward.truth import true_run


class ExamplesTest(unittest.TestCase):
    def test_cells(self):
        self.assertEqual(example().cells(), ("s", "d"))

    def test_row_paths(self):
        self.assertEqual(example().row_paths(), [
            ("derived", 0, 0), ("derived", 0, 1), ("effects", 0, 0), ("effects", 0, 1), ("effects", 0, 2),
        ])

    def test_a_derived_cell_that_reads_itself(self):
        with self.assertRaises(InvalidProgram) as caught:
            Program(("off", "on"), ("s",), (("d", (("read", "d", "x"),)),), ())
        self.assertEqual((caught.exception.part, caught.exception.path), ("rows", ("derived", 0, 0)))

    def test_true_run(self):
        self.assertEqual(true_run(example(), ("on",), "e")["notes"], (("s", "on"), ("d", "on")))
