"""Points 4, 6 and 8: what a program tells, its paths, with_row and equality."""

import unittest

from tests.samples import COPY, NESTED_PATHS, ODD_VALUES, SAY_D, WORDS, example, nested
from toldonward.errors import InvalidPath, InvalidProgram, UnknownCell
from toldonward.programs import Program

NO_PATHS = ODD_VALUES + [
    (), ("derived",), ("effects",), ("derived", 0), ("effects", 0), ("derived", 0, 1, 0), ("derived", 0, 1, 1),
    ["derived", 0, 0], ["effects", 0, 0], (("derived", 0, 0),), ("derived", (0, 0)), ("derived", [0], [0]),
    ("derived", 0, [0]), ("derived", 0, (0,)), (("derived", 0), 0), ("derived", 0, {}),
    ("sources", 0, 0), ("derive", 0, 0), ("", 0, 0), (None, 0, 0), (0, 0, 0), (["derived"], 0, 0), ("d", 0),
    ("derived", "d", 0), ("derived", "0", "0"), ("derived", 0, "0"), ("derived", 0, None), ("derived", None, 0),
    ("derived", 2, 0), ("derived", -1, 0), ("derived", -2, 0), ("derived", 0, 3), ("derived", 0, -1),
    ("effects", 2, 0), ("effects", -1, 0), ("effects", 1, 0), ("effects", 0, 2), ("effects", 0, -2),
    ("effects", 10 ** 30, 0), ("effects", 0, 10 ** 30),
    ("derived", False, 0), ("derived", 0, False), ("derived", True, 0), ("derived", 0, True), ("derived", 1, True),
    ("effects", False, 0), ("effects", 0, True), ("derived", 0, True, 0, 0), ("derived", 0, 1, False, 0),
    ("derived", 0, 1, 0, False), ("derived", 1, 0, True, 0), ("derived", 0, 1, 0, True),
    ("derived", 0, 0, 0, 0), ("derived", 0, 0, 0), ("derived", 0, 2, 0, 0), ("derived", 0, 1, 0, 0, 0, 0),
    ("derived", 0, 1, 1, 0), ("derived", 0, 1, 2, 0), ("derived", 0, 1, -1, 0), ("derived", 0, 1, -2, 0),
    ("derived", 0, 1, 3, 0), ("derived", 0, 1, 0, 3), ("derived", 0, 1, 0, -1), ("derived", 0, 1, None, 0),
    ("derived", 0, 1, "0", 0), ("derived", 0, 1, 0, "0"), ("derived", 0, 1, 0, None), ("derived", 0, 1, 0, 1, 0, 0, 0),
    ("effects", 0, 0, 0, 0, 0, 0, 0, 0, 0), ("effects", 0, 0, 0, 0, 0, 0, 0, 0, 0, 0), ("derived", 0) + (0,) * 5000,
    ("effects", 0) + (0,) * 5000, ("derived", 0, 0, "x"), ("derived", 0, 1, 0, 0, "x"), (0, "derived", 0),
]


class TellingTest(unittest.TestCase):
    def test_attributes_are_as_passed(self):
        derived = (("d", COPY),)
        effects = (("e", SAY_D),)
        sources = ("s",)
        program = Program(WORDS, sources, derived, effects)
        self.assertIs(program.words, WORDS)
        self.assertIs(program.sources, sources)
        self.assertIs(program.derived, derived)
        self.assertIs(program.effects, effects)

    def test_arguments_by_name(self):
        program = Program(effects=(), derived=(), sources=("s",), words=WORDS)
        self.assertEqual(program, Program(WORDS, ("s",), (), ()))

    def test_names_in_order(self):
        program = Program(WORDS, ("z", "a"), (("y", ()), ("b", ())), (("x", ()), ("c", ())))
        self.assertEqual(program.cells(), ("z", "a", "y", "b"))
        self.assertEqual(program.derived_names(), ("y", "b"))
        self.assertEqual(program.effect_names(), ("x", "c"))

    def test_names_of_the_smallest_program(self):
        program = Program(WORDS, ("s",), (), ())
        self.assertEqual(program.cells(), ("s",))
        self.assertEqual(program.derived_names(), ())
        self.assertEqual(program.effect_names(), ())
        self.assertEqual(program.row_paths(), [])

    def test_body(self):
        program = example()
        self.assertIs(program.body("d"), program.derived[0][1])
        self.assertIs(program.body("e"), program.effects[0][1])
        self.assertEqual(nested().body("f"), ())
        self.assertEqual(nested().body("dd"), nested().derived[1][1])

    def test_body_of_what_has_none(self):
        for name in ("s", "q", "x", "off", "", "D", None, 0, ("d",), ["d"], {}):
            with self.assertRaises(UnknownCell) as caught:
                example().body(name)
            self.assertEqual(caught.exception.name, name)


class PathsTest(unittest.TestCase):
    def test_row_paths(self):
        self.assertEqual(nested().row_paths(), NESTED_PATHS)

    def test_row_paths_are_a_new_list(self):
        program = nested()
        paths = program.row_paths()
        paths.clear()
        self.assertEqual(program.row_paths(), NESTED_PATHS)
        self.assertIs(type(program.row_paths()), list)

    def test_each_path_leads_to_its_row(self):
        program = nested()
        first = program.body("d")
        third = program.body("e")
        self.assertIs(program.row_at(("derived", 0, 1)), first[1])
        self.assertIs(program.row_at(("derived", 0, 1, 0, 2)), first[1][3][2])
        self.assertIs(program.row_at(("derived", 0, 1, 0, 1, 1, 0)), first[1][3][1][4][0])
        self.assertIs(program.row_at(("derived", 1, 0, 1, 0)), program.body("dd")[0][4][0])
        self.assertIs(program.row_at(("effects", 0, 0, 1, 0)), third[0][4][0])
        self.assertIs(program.row_at(("effects", 0, 0, 0, 0, 0, 0, 1, 0)), third[0][3][0][3][0][4][0])
        for path in NESTED_PATHS:
            row = program
            row = {"derived": program.derived, "effects": program.effects}[path[0]][path[1]][1][path[2]]
            for branch, place in zip(path[3::2], path[4::2]):
                row = row[3 + branch][place]
            self.assertIs(program.row_at(path), row)

    def test_what_is_no_path(self):
        program = nested()
        for path in NO_PATHS:
            with self.subTest(str(path)[:60]):
                with self.assertRaises(InvalidPath) as caught:
                    program.row_at(path)
                self.assertIs(caught.exception.path, path)
                with self.assertRaises(InvalidPath) as caught:
                    program.with_row(path, ("put", "x", "on"))
                self.assertIs(caught.exception.path, path)

    def test_bodies_without_rows_have_no_paths(self):
        program = Program(WORDS, ("s",), (("d", ()),), ())
        for path in (("derived", 0, 0), ("effects", 0, 0), ("derived", 1, 0)):
            with self.assertRaises(InvalidPath):
                program.row_at(path)


class WithRowTest(unittest.TestCase):
    def test_a_row_is_replaced(self):
        program = example()
        other = program.with_row(("effects", 0, 0), ("peek", "s", "x"))
        self.assertEqual(other.body("e"), (("peek", "s", "x"), SAY_D[1], SAY_D[2]))
        self.assertEqual(other.derived, program.derived)
        other = program.with_row(("derived", 0, 1), ("put", "x", "on"))
        self.assertEqual(other.body("d"), (COPY[0], ("put", "x", "on")))
        self.assertEqual(other.effects, program.effects)

    def test_the_old_program_stays(self):
        program = nested()
        parts = (program.words, program.sources, program.derived, program.effects)
        for path in NESTED_PATHS:
            program.with_row(path, ("put", "x", "mid"))
            self.assertEqual(program, nested())
        for old, now in zip(parts, (program.words, program.sources, program.derived, program.effects)):
            self.assertIs(old, now)

    def test_each_row_can_be_replaced(self):
        program = nested()
        row = ("put", "w", "mid")
        for path in NESTED_PATHS:
            changed = program.with_row(path, row)
            self.assertEqual(changed.row_at(path), row)
            for other in NESTED_PATHS:
                if other[:len(path)] == path:
                    continue
                was = program.row_at(other)
                now = changed.row_at(other)
                if path[:len(other)] == other:
                    self.assertEqual(was[:3], now[:3])
                    self.assertNotEqual(was, now)
                else:
                    self.assertEqual(was, now)
            self.assertEqual(len(changed.row_paths()),
                             len([other for other in NESTED_PATHS if other[:len(path)] != path]) + 1)

    def test_an_equal_row_gives_an_equal_program(self):
        program = nested()
        for path in NESTED_PATHS:
            changed = program.with_row(path, program.row_at(path))
            self.assertEqual(changed, program)
            self.assertIsNot(changed, program)

    def test_a_row_of_another_body_in_the_same_place(self):
        program = Program(WORDS, ("s",), (("a", COPY), ("b", COPY)), (("e", ()), ("f", (("say", "x"),))))
        changed = program.with_row(("derived", 1, 0), ("read", "a", "x"))
        self.assertEqual(changed.derived, (("a", COPY), ("b", (("read", "a", "x"), ("give", "x")))))
        changed = program.with_row(("effects", 1, 0), ("say", "y"))
        self.assertEqual(changed.effects, (("e", ()), ("f", (("say", "y"),))))

    def fails(self, program, path, row, part, wrong):
        with self.assertRaises(InvalidProgram) as caught:
            program.with_row(path, row)
        self.assertEqual((caught.exception.part, caught.exception.path), (part, wrong))

    def test_rows_that_are_wrong(self):
        program = nested()
        for path in NESTED_PATHS:
            for row in ODD_VALUES + [(), ("nothing",), ["put", "x", "on"], ("put", "x", "none"), ("read", "e", "x")]:
                self.fails(program, path, row, "rows", path)

    def test_rows_that_are_wrong_there(self):
        self.fails(nested(), ("derived", 0, 0), ("say", "x"), "rows", ("derived", 0, 0))
        self.fails(nested(), ("derived", 0, 0), ("read", "dd", "x"), "rows", ("derived", 0, 0))
        self.fails(nested(), ("effects", 0, 0), ("give", "x"), "rows", ("effects", 0, 0))
        inner = ("if", "x", "on", (("put", "x", "on"),), (("put", "x", "on"), ("nothing",)))
        self.fails(nested(), ("effects", 0, 0), inner, "rows", ("effects", 0, 0, 1, 1))

    def test_an_if_row_that_gets_too_deep(self):
        at = ("effects", 0, 0, 0, 0, 0, 0, 0, 0)
        self.fails(nested(), at, ("if", "x", "on", (), ()), "rows", at)

    def test_a_body_that_gets_too_long(self):
        program = example()
        row = ("put", "x", "on")
        program.with_row(("derived", 0, 0), ("if", "x", "on", (row,) * 7, (row,) * 7))
        self.fails(program, ("derived", 0, 0), ("if", "x", "on", (row,) * 7, (row,) * 8), "many", ("derived", 0))
        self.fails(program, ("effects", 0, 1), ("if", "x", "on", (row,) * 14, ()), "many", ("effects", 0))

    def test_a_wrong_path_comes_before_a_wrong_row(self):
        for path in NO_PATHS[:20]:
            with self.assertRaises(InvalidPath):
                example().with_row(path, None)


class EqualTest(unittest.TestCase):
    def test_equal_if_the_parts_are(self):
        self.assertTrue(example() == example())
        self.assertFalse(example() != example())
        self.assertTrue(nested() == nested())

    def test_each_part_counts(self):
        first = example()
        others = [
            Program(("off", "on", "mid"), first.sources, first.derived, first.effects),
            Program(("on", "off"), first.sources, first.derived, first.effects),
            Program(first.words, ("s", "t"), first.derived, first.effects),
            Program(first.words, first.sources, first.derived + (("c", ()),), first.effects),
            Program(first.words, first.sources, (("d", COPY + COPY),), first.effects),
            Program(first.words, first.sources, first.derived, ()),
            Program(first.words, first.sources, first.derived, (("f", SAY_D),)),
            nested(),
        ]
        for other in others:
            self.assertFalse(first == other)
            self.assertTrue(first != other)

    def test_the_order_of_bodies_counts(self):
        first = Program(WORDS, ("s",), (("a", ()), ("b", ())), ())
        second = Program(WORDS, ("s",), (("b", ()), ("a", ())), ())
        self.assertFalse(first == second)
