"""Point 2: values that are nested deep, and arguments that stay as they were."""

import copy
import unittest

from tests.cases import deep_values
from tests.samples import WORDS, example, nested
from toldonward.errors import InvalidPath, InvalidProgram, InvalidStart
from toldonward.programs import Program
from toldonward.truth import true_run, true_word, true_words


class DeepTest(unittest.TestCase):
    def test_deep_values_in_the_place_of_parts(self):
        right = [WORDS, ("s",), (), ()]
        for value in deep_values():
            for place, part in enumerate(("words", "sources", "derived", "effects")):
                parts = list(right)
                parts[place] = value
                with self.assertRaises(InvalidProgram) as caught:
                    Program(*parts)
                self.assertEqual((caught.exception.part, caught.exception.path), (part, ()))

    def test_deep_values_in_the_place_of_rows(self):
        for value in deep_values():
            for rows, path in ((value, ("derived", 0)), ((value,), ("derived", 0, 0))):
                with self.assertRaises(InvalidProgram) as caught:
                    Program(WORDS, ("s",), (("d", rows),), ())
                self.assertEqual(caught.exception.part, "rows")
                self.assertEqual(caught.exception.path[:len(path)], path)
            with self.assertRaises(InvalidProgram):
                example().with_row(("derived", 0, 0), value)

    def test_deep_values_as_paths_and_words(self):
        for value in deep_values():
            for path in (value, ("derived", value, 0), ("derived", 0, value), (value, 0, 0)):
                with self.assertRaises(InvalidPath):
                    example().row_at(path)
                with self.assertRaises(InvalidPath):
                    example().with_row(path, value)
            for words in (value, (value,)):
                for call in (lambda: true_words(example(), words), lambda: true_word(example(), words, "s"),
                             lambda: true_run(example(), words, "d")):
                    self.assertRaises(InvalidStart, call)


class UnchangedTest(unittest.TestCase):
    def test_arguments_are_not_modified(self):
        for value in ([["d", []]], {"d": [1]}, [("s", ["x"])]):
            before = copy.deepcopy(value)
            self.assertRaises(InvalidProgram, Program, value, value, value, value)
            self.assertRaises(InvalidProgram, Program, WORDS, ("s",), (("d", value),), ())
            self.assertRaises(InvalidPath, example().row_at, value)
            self.assertRaises(InvalidProgram, example().with_row, ("derived", 0, 0), value)
            self.assertRaises(InvalidStart, true_words, example(), value)
            self.assertEqual(value, before)

    def test_calls_that_fail_leave_the_program_as_it_was(self):
        program = nested()
        before = copy.deepcopy(vars(program))
        self.assertRaises(InvalidProgram, program.with_row, ("effects", 0, 0), None)
        self.assertRaises(InvalidProgram, program.with_row, ("derived", 0, 1, 0, 1), ("say", "x"))
        self.assertRaises(InvalidPath, program.with_row, ("derived", 5, 5), ("give", "x"))
        self.assertRaises(InvalidStart, true_run, program, (), "d")
        self.assertRaises(InvalidProgram, program.__init__, WORDS, ("s",), None, ())
        self.assertEqual(vars(program), before)
