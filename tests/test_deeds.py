"""Points 22 and 25: what is a deed of a program, and the deeds that books use."""

import copy
import unittest

from tests.cases import RIGHT_DEEDS, THREE, WRONG_DEEDS, deep_values
from tests.samples import ODD_VALUES, WORDS, example
from toldonward.programs import Program
from toldonward.standings import deeds, is_deed


class IsDeedTest(unittest.TestCase):
    def test_right_deeds(self):
        for deed in RIGHT_DEEDS:
            self.assertIs(is_deed(THREE, deed), True, deed)

    def test_wrong_deeds(self):
        for deed in WRONG_DEEDS + ODD_VALUES + [(), ((),), ((), ()), ((), (), ())]:
            before = copy.deepcopy(deed)
            self.assertIs(is_deed(THREE, deed), False, deed)
            self.assertEqual(deed, before)

    def test_deep_values(self):
        for value in deep_values():
            for deed in (value, (value,), (value, value), ("read", value), ("batch", value), ("batch", (value,)),
                         ("batch", ((value, "on"),)), ("batch", (("s", value),)), ("batch", (("s", "on"), value)),
                         ("write", value, "on"), ("write", "s", value), (value, "s", "on"), (value, "s")):
                self.assertIs(is_deed(THREE, deed), False)

    def test_all_listed_deeds_are_right(self):
        for deed in deeds(THREE):
            self.assertTrue(is_deed(THREE, deed))

    def test_deeds_belong_to_a_program(self):
        self.assertFalse(is_deed(example(), ("read", "b")))
        self.assertFalse(is_deed(example(), ("write", "t", "on")))
        self.assertFalse(is_deed(example(), ("write", "s", "mid")))
        self.assertTrue(is_deed(example(), ("batch", (("s", "on"),))))
        self.assertFalse(is_deed(example(), ("batch", (("s", "on"), ("t", "on")))))


class DeedsTest(unittest.TestCase):
    def test_one_source(self):
        due = [("write", "s", "off"), ("write", "s", "on"), ("read", "d")]
        self.assertEqual(deeds(example()), due)
        self.assertEqual(deeds(example(), batches=True), due)
        self.assertEqual(deeds(example(), batches=False), due)

    def test_two_sources(self):
        program = Program(WORDS, ("t", "s"), (("z", ()), ("a", ())), (("e", ()),))
        writes = [("write", "t", "off"), ("write", "t", "on"), ("write", "s", "off"), ("write", "s", "on")]
        batches = [
            ("batch", (("t", "off"), ("s", "off"))), ("batch", (("t", "off"), ("s", "on"))),
            ("batch", (("t", "on"), ("s", "off"))), ("batch", (("t", "on"), ("s", "on"))),
        ]
        reads = [("read", "z"), ("read", "a")]
        self.assertEqual(deeds(program), writes + batches + reads)
        self.assertEqual(deeds(program, batches=False), writes + reads)

    def test_three_sources(self):
        found = deeds(THREE)
        self.assertEqual(len(found), 9 + 27 + 2)
        self.assertEqual(found[:9], [("write", source, word) for source in "stu" for word in ("off", "on", "mid")])
        self.assertEqual(found[9:19], [
            ("batch", (("s", "off"), ("t", "off"))), ("batch", (("s", "off"), ("t", "on"))),
            ("batch", (("s", "off"), ("t", "mid"))), ("batch", (("s", "off"), ("u", "off"))),
            ("batch", (("s", "off"), ("u", "on"))), ("batch", (("s", "off"), ("u", "mid"))),
            ("batch", (("s", "on"), ("t", "off"))), ("batch", (("s", "on"), ("t", "on"))),
            ("batch", (("s", "on"), ("t", "mid"))), ("batch", (("s", "on"), ("u", "off"))),
        ])
        self.assertEqual(found[27:29],
                         [("batch", (("t", "off"), ("u", "off"))), ("batch", (("t", "off"), ("u", "on")))])
        self.assertEqual(found[35:], [("batch", (("t", "mid"), ("u", "mid"))), ("read", "d"), ("read", "b")])
        self.assertEqual(deeds(THREE, batches=False), found[:9] + found[36:])

    def test_no_derived_cells(self):
        program = Program(WORDS, ("s",), (), (("e", ()),))
        self.assertEqual(deeds(program), [("write", "s", "off"), ("write", "s", "on")])

    def test_a_new_list_each_time(self):
        first = deeds(THREE)
        self.assertIs(type(first), list)
        due = list(first)
        first.clear()
        self.assertEqual(deeds(THREE), due)

    def test_batches_is_passed_by_name(self):
        self.assertRaises(TypeError, deeds, THREE, True)
