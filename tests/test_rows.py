"""Points 5, 6 and 7: which rows are valid, where, and which fault is told first."""

import unittest

from tests.samples import COPY, NO_NAMES, WORDS, with_derived, with_effect
from toldonward.errors import InvalidProgram
from toldonward.programs import Program

ODD_ROWS = [None, True, 0, 7, "", "give", "read s x", (), [], {}, ["give", "x"], ["read", "s", "x"], {"give": "x"},
            ("",), ("reads", "s", "x"), ("Read", "s", "x"), (None, "s", "x"), (True,), (0, "x"), (("give",), "x"),
            (["give"], "x"), ({"give": 1}, "x"), ("else",), ("end",), ("run", "s"), (("give", "x"),)]

# Each form in the kinds of body where it may stand, as right rows.
DERIVED_ROWS = [("read", "s", "x"), ("read", "t", "ninety"), ("put", "x", "on"), ("put", "s", "off"),
                ("if", "x", "on", (), ()), ("if", "d", "off", (("give", "x"),), (("put", "y", "on"),)), ("give", "x"),
                ("give", "abcdefgh")]
EFFECT_ROWS = [("read", "s", "x"), ("read", "d", "x"), ("peek", "t", "x"), ("peek", "d", "d"), ("put", "x", "on"),
               ("if", "x", "on", (), ()), ("if", "e", "off", (("say", "x"),), (("peek", "d", "y"),)),
               ("write", "s", "x"), ("write", "t", "t"), ("say", "x"), ("say", "abcdefgh")]


class RowsCase(unittest.TestCase):
    def fails(self, part, path, words, sources, derived, effects):
        with self.assertRaises(InvalidProgram) as caught:
            Program(words, sources, derived, effects)
        self.assertEqual((caught.exception.part, caught.exception.path), (part, path))

    def wrong_in_derived(self, rows, path, part="rows"):
        self.fails(part, ("derived", 0) + path, WORDS, ("s", "t"), (("d", rows), ("later", ())), (("e", ()),))

    def wrong_in_effect(self, rows, path, part="rows"):
        self.fails(part, ("effects", 0) + path, WORDS, ("s", "t"), (("d", COPY),), (("e", rows), ("f", ())))


class FormsTest(RowsCase):
    def test_right_rows(self):
        for row in DERIVED_ROWS:
            self.assertEqual(with_derived((row,)).body("d"), (row,))
            self.assertEqual(with_derived((("if", "x", "on", (), (row,)),)).row_at(("derived", 0, 0, 1, 0)), row)
        for row in EFFECT_ROWS:
            self.assertEqual(with_effect((row,)).body("e"), (row,))
            self.assertEqual(with_effect((("if", "x", "on", (row,), ()),)).row_at(("effects", 0, 0, 0, 0)), row)

    def test_forms_in_the_wrong_kind_of_body(self):
        for row in (("peek", "s", "x"), ("write", "s", "x"), ("say", "x")):
            self.wrong_in_derived((row,), (0,))
            self.wrong_in_derived((("if", "x", "on", (), (row,)),), (0, 1, 0))
        self.wrong_in_effect((("give", "x"),), (0,))
        self.wrong_in_effect((("if", "x", "on", (("give", "x"),), ()),), (0, 0, 0))

    def test_wrong_lengths(self):
        for row in DERIVED_ROWS:
            for wrong in (row[:-1], row + ("x",), row[:1], row + row):
                self.wrong_in_derived((wrong,), (0,))
        for row in EFFECT_ROWS:
            for wrong in (row[:-1], row + ("x",), row[:1], row + row):
                self.wrong_in_effect((wrong,), (0,))

    def test_if_rows_of_wrong_lengths(self):
        for row in (("if", "x", "on", ()), ("if", "x", "on"), ("if", "x", "on", (), (), ())):
            self.wrong_in_derived((row,), (0,))
            self.wrong_in_effect((row,), (0,))

    def test_lists_in_the_place_of_tuples(self):
        for row in DERIVED_ROWS:
            self.wrong_in_derived((list(row),), (0,))
        for row in EFFECT_ROWS:
            self.wrong_in_effect((list(row),), (0,))

    def test_rows_that_are_no_rows(self):
        for row in ODD_ROWS:
            self.wrong_in_derived((row,), (0,))
            self.wrong_in_effect((row,), (0,))
            self.wrong_in_derived((("give", "x"), row), (1,))

    def test_slots_that_are_none(self):
        for value in NO_NAMES:
            for row in (("read", "s", value), ("put", value, "on"), ("if", value, "on", (), ())):
                self.wrong_in_derived((row,), (0,))
                self.wrong_in_effect((row,), (0,))
            self.wrong_in_derived((("give", value),), (0,))
            for row in (("peek", "s", value), ("write", "s", value), ("say", value)):
                self.wrong_in_effect((row,), (0,))

    def test_words_that_are_none(self):
        for value in [value for value in NO_NAMES if value != "off"] + ["s", "d", "x", "onn", "of"]:
            for row in (("put", "x", value), ("if", "x", value, (), ())):
                self.wrong_in_derived((row,), (0,))
                self.wrong_in_effect((row,), (0,))

    def test_cells_that_are_unknown(self):
        for value in NO_NAMES + ["u", "e", "f", "on", "x"]:
            for row in (("read", value, "x"),):
                self.wrong_in_derived((row,), (0,))
            for row in (("read", value, "x"), ("peek", value, "x"), ("write", value, "x")):
                self.wrong_in_effect((row,), (0,))

    def test_only_sources_are_written(self):
        self.wrong_in_effect((("write", "d", "x"),), (0,))
        with_effect((("write", "t", "x"),))

    def test_derived_cells_read_what_stands_before_them(self):
        def fails(path, *bodies):
            self.fails("rows", path, WORDS, ("s",), tuple(zip(("a", "b", "c"), bodies)), ())

        fails(("derived", 0, 0), (("read", "a", "x"),), (), ())
        fails(("derived", 0, 0), (("read", "b", "x"),), (), ())
        fails(("derived", 1, 0), (), (("read", "c", "x"),), ())
        fails(("derived", 1, 0), (), (("read", "b", "x"),), ())
        fails(("derived", 1, 1, 0, 0), (), (("read", "a", "x"), ("if", "x", "on", (("read", "c", "x"),), ())), ())
        fails(("derived", 2, 2), (), (), (("read", "a", "x"), ("read", "b", "x"), ("read", "c", "x")))
        Program(WORDS, ("s",), (("a", ()), ("b", (("read", "a", "x"),)), ("c", (("read", "b", "x"),))), ())

    def test_effects_read_every_cell_but_no_effect(self):
        rows = (("read", "s", "x"), ("read", "a", "x"), ("peek", "b", "x"))
        Program(WORDS, ("s",), (("a", ()), ("b", ())), (("e", rows), ("f", rows)))
        for name in ("e", "f"):
            for form in ("read", "peek"):
                self.wrong_in_effect((("say", "x"), (form, name, "x")), (1,))


class DepthTest(RowsCase):
    def wrapped(self, row, times):
        for _ in range(times):
            row = ("if", "x", "on", (), (row,))
        return row

    def test_rows_at_each_depth(self):
        for times in range(4):
            with_derived((self.wrapped(("give", "x"), times),))
            with_effect((self.wrapped(("say", "x"), times),))

    def test_if_row_at_depth_three(self):
        with_derived((self.wrapped(("if", "x", "on", (), ()), 2),))
        with_effect((self.wrapped(("if", "x", "on", (("say", "x"),), ()), 2),))

    def test_if_row_at_depth_four(self):
        deep = self.wrapped(("if", "x", "on", (), ()), 3)
        self.wrong_in_derived((deep,), (0, 1, 0, 1, 0, 1, 0))
        self.wrong_in_effect((("say", "x"), deep), (1, 1, 0, 1, 0, 1, 0))

    def test_if_rows_at_greater_depths(self):
        deep = self.wrapped(("give", "x"), 9)
        self.wrong_in_derived((deep,), (0, 1, 0, 1, 0, 1, 0))

    def test_if_row_at_depth_four_that_is_wrong_anyway(self):
        deep = self.wrapped(("if", "x", "none", 1, 2), 3)
        self.wrong_in_effect((deep,), (0, 1, 0, 1, 0, 1, 0))

    def test_if_rows_whose_rows_are_no_tuples(self):
        for value in ([], None, True, 0, "", "x", {}, [("put", "x", "on")]):
            for row in (("if", "x", "on", value, ()), ("if", "x", "on", (), value)):
                self.wrong_in_derived((("put", "x", "on"), row), (1,))
                self.wrong_in_effect((row,), (0,))
                self.wrong_in_effect((("if", "x", "on", (row,), ()),), (0, 0, 0))

    def test_an_if_row_is_checked_before_the_rows_inside(self):
        self.wrong_in_derived((("if", "x", "on", (("say", "x"),), []),), (0,))
        self.wrong_in_derived((("if", "x", "none", (("say", "x"),), ()),), (0,))


class BodiesTest(RowsCase):
    def test_bodies_whose_rows_are_no_tuple(self):
        for value in ([], None, True, 0, "", "x", {}, [("give", "x")]):
            self.wrong_in_derived(value, ())
            self.wrong_in_effect(value, ())

    def test_many_rows_side_by_side(self):
        row = ("put", "x", "on")
        with_derived((row,) * 16)
        with_effect((row,) * 16)
        for many in (17, 18, 40):
            self.wrong_in_derived((row,) * many, (), "many")
            self.wrong_in_effect((row,) * many, (), "many")

    def test_many_rows_at_all_depths(self):
        row = ("put", "x", "on")
        inner = ("if", "x", "on", (row,) * 3, (row,) * 2)
        outer = ("if", "x", "on", (inner,), (row,) * 4)
        self.assertEqual(len(with_effect((outer,) + (row,) * 5).row_paths()), 18)
        self.wrong_in_effect((outer,) + (row,) * 6, (), "many")
        self.wrong_in_derived((row, outer) + (row,) * 5, (), "many")
        self.wrong_in_derived((("if", "x", "on", (row,) * 8, (row,) * 8),), (), "many")
        with_derived((("if", "x", "on", (row,) * 8, (row,) * 7),))

    def test_many_is_counted_for_each_body(self):
        full = (("put", "x", "on"),) * 16
        Program(WORDS, ("s",), (("a", full), ("b", full)), (("e", full), ("f", full)))

    def test_wrong_rows_come_before_many(self):
        row = ("put", "x", "on")
        self.wrong_in_derived((row,) * 20 + (("say", "x"),), (20,))
        self.wrong_in_effect((row,) * 17 + (["say", "x"], None), (17,))

    def test_many_comes_before_the_next_body(self):
        many = (("put", "x", "on"),) * 17
        for rows in (None, (None,), many):
            self.fails("many", ("derived", 0), WORDS, ("s",), (("a", many), ("b", rows)), (("e", rows),))
            self.fails("many", ("effects", 0), WORDS, ("s",), (("a", ()),), (("e", many), ("f", rows)))

    def test_bodies_are_checked_in_order(self):
        bodies = [("rows", None, ()), ("rows", (None,), (0,)), ("many", (("put", "x", "on"),) * 17, ())]
        paths = [("derived", 0), ("derived", 1), ("effects", 0), ("effects", 1)]
        for first in range(4):
            for second in range(first + 1, 4):
                for part, wrong, inner in bodies:
                    for _, other, _ in bodies:
                        rows = [(), (), (), ()]
                        rows[first] = wrong
                        rows[second] = other
                        self.fails(part, paths[first] + inner, WORDS, ("s",), (("a", rows[0]), ("b", rows[1])),
                                   (("e", rows[2]), ("f", rows[3])))

    def test_the_first_wrong_row_in_program_order(self):
        wrong = ("nothing",)
        right = ("put", "x", "on")
        inner = ("if", "x", "on", (right, wrong), (wrong,))
        self.wrong_in_derived((right, inner, wrong), (1, 0, 1))
        self.wrong_in_derived((right, ("if", "x", "on", (right,), (right, right, wrong)), wrong), (1, 1, 2))
        self.wrong_in_derived((right, ("if", "x", "on", (right,), (right,)), wrong), (2,))
        self.wrong_in_derived((wrong, inner), (0,))
        self.wrong_in_effect((("if", "x", "on", (right, inner), (wrong,)), wrong), (0, 0, 1, 0, 1))
        self.wrong_in_effect((("if", "x", "on", (), (right, inner)), wrong), (0, 1, 1, 0, 1))

    def test_nothing_that_was_passed_is_modified(self):
        rows = [["read", "s", "x"]]
        with self.assertRaises(InvalidProgram):
            Program(WORDS, ("s",), (("d", rows),), ())
        self.assertEqual(rows, [["read", "s", "x"]])
