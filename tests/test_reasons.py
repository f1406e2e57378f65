"""Points 51 to 54: what a body tells, reasons, levers, certainty and shares."""

import copy
import unittest

from tests.cases import ErrorCase, deep_values
from tests.samples import ODD_VALUES, WORDS, example
from toldonward.errors import InvalidSources, InvalidStart, UnknownCell
from toldonward.programs import Program
from toldonward.reasons import (certainty, deciding_sources, is_lever, is_reason, least_levers, least_reasons,
                                lever_words, shares, telling)

BOTH = (("read", "s", "x"), ("if", "x", "on", (("read", "t", "x"),), ()), ("give", "x"))
SAYS = (("read", "d", "x"), ("peek", "t", "y"), ("say", "y"), ("write", "s", "x"), ("say", "x"), ("write", "t", "y"))
# d is "on" if s and t both are; e says the words of t and d and writes them; n tells the same everywhere.
TWO = Program(WORDS, ("s", "t"), (("d", BOTH), ("n", (("read", "s", "x"), ("give", "y")))), (("e", SAYS), ("f", ())))
ALL_OFF = ("off", "off")
ALL_ON = ("on", "on")
NO_SETS = ODD_VALUES + [
    "s", "st", ("t", "s"), ("s", "s"), ("s", "t", "s"), ("t", "t"), ["s"], ["s", "t"], ("d",), ("s", "d"), ("e",), ("q",),
    ("on",), (None,), ("s", None), (True,), (0,), (("s",),), (["s"],), {"s": True}, (("s", "off"),), ((),),
]


def four():
    """A program with four sources; d is "on" if u and v are equal, whatever s and t hold."""
    rows = (
        ("read", "u", "x"), ("read", "v", "y"),
        ("if", "x", "on", (("give", "y"),), (("if", "y", "off", (("put", "z", "on"),), ()),)),
        ("give", "z"),
    )
    return Program(WORDS, ("s", "t", "u", "v"), (("d", rows),), (("e", (("peek", "d", "x"), ("say", "x"))),))


class TellingTest(unittest.TestCase):
    def test_a_derived_cell(self):
        self.assertEqual(telling(TWO, ALL_ON, "d"), ("on", (), ()))
        self.assertEqual(telling(TWO, ("on", "off"), "d"), ("off", (), ()))
        self.assertEqual(telling(TWO, ALL_ON, "n"), ("off", (), ()))

    def test_an_effect(self):
        self.assertEqual(telling(TWO, ("off", "on"), "e"), (None, ("on", "off"), (("s", "off"), ("t", "on"))))
        self.assertEqual(telling(TWO, ALL_ON, "e"), (None, ("on", "on"), (("s", "on"), ("t", "on"))))
        self.assertEqual(telling(TWO, ALL_ON, "f"), (None, (), ()))

    def test_tuples(self):
        told = telling(TWO, ALL_ON, "e")
        self.assertEqual([type(told), type(told[1]), type(told[2])], [tuple] * 3)


class ReasonTest(unittest.TestCase):
    def test_reasons(self):
        for words, due in ((ALL_OFF, [("s",), ("t",), ("s", "t")]), (("on", "off"), [("t",), ("s", "t")]),
                           (("off", "on"), [("s",), ("s", "t")]), (ALL_ON, [("s", "t")])):
            found = [value for value in ((), ("s",), ("t",), ("s", "t")) if is_reason(TWO, words, "d", value)]
            self.assertEqual(found, due)

    def test_levers(self):
        for words, due in ((ALL_OFF, [("s", "t")]), (("on", "off"), [("t",), ("s", "t")]),
                           (("off", "on"), [("s",), ("s", "t")]), (ALL_ON, [("s",), ("t",), ("s", "t")])):
            found = [value for value in ((), ("s",), ("t",), ("s", "t")) if is_lever(TWO, words, "d", value)]
            self.assertEqual(found, due)

    def test_flags(self):
        self.assertIs(is_reason(TWO, ALL_OFF, "d", ("s",)), True)
        self.assertIs(is_reason(TWO, ALL_OFF, "d", ()), False)
        self.assertIs(is_lever(TWO, ALL_ON, "d", ("s",)), True)
        self.assertIs(is_lever(TWO, ALL_ON, "d", ()), False)

    def test_values_that_are_no_sets(self):
        for value in NO_SETS + deep_values():
            for name in ("d", "n", "e", "f"):
                self.assertIs(is_reason(TWO, ALL_ON, name, value), False)
                self.assertIs(is_lever(TWO, ALL_ON, name, value), False)

    def test_values_are_not_modified(self):
        for value in NO_SETS:
            before = copy.deepcopy(value)
            is_reason(TWO, ALL_ON, "d", value)
            is_lever(TWO, ALL_ON, "d", value)
            self.assertRaises(InvalidSources, lever_words, TWO, ALL_ON, "d", value)
            self.assertRaises(InvalidSources, certainty, TWO, ALL_ON, "d", value)
            self.assertEqual(value, before)

    def test_the_empty_set(self):
        for name in ("n", "f"):
            self.assertTrue(is_reason(TWO, ALL_ON, name, ()))
            for value in ((), ("s",), ("t",), ("s", "t")):
                self.assertTrue(is_reason(TWO, ALL_ON, name, value))
                self.assertFalse(is_lever(TWO, ALL_ON, name, value))

    def test_says_and_writes_count(self):
        says = Program(WORDS, ("s",), (), (("e", (("read", "s", "x"), ("say", "x"))),))
        writes = Program(WORDS, ("s",), (), (("e", (("read", "s", "x"), ("write", "s", "x"))),))
        neither = Program(WORDS, ("s",), (), (("e", (("read", "s", "x"), ("say", "y"))),))
        self.assertEqual([is_reason(program, ("on",), "e", ()) for program in (says, writes, neither)],
                         [False, False, True])

    def test_lever_words(self):
        self.assertEqual(lever_words(TWO, ALL_OFF, "d", ("s", "t")), ALL_ON)
        self.assertEqual(lever_words(TWO, ALL_ON, "d", ("s", "t")), ALL_OFF)
        self.assertEqual(lever_words(TWO, ALL_ON, "d", ("t",)), ("on", "off"))
        for sources in ((), ("s",), ("t",)):
            self.assertIsNone(lever_words(TWO, ALL_OFF, "d", sources))
        self.assertIsNone(lever_words(TWO, ALL_OFF, "n", ("s", "t")))

    def test_lever_words_are_the_first_ones(self):
        program = Program(("mid", "on", "off"), ("s", "t"), (("d", BOTH),), ())
        # Only where s is "on", t counts.
        self.assertEqual(lever_words(program, ("off", "off"), "d", ("s", "t")), ("mid", "mid"))
        self.assertEqual(lever_words(program, ("mid", "mid"), "d", ("s", "t")), ("on", "on"))
        self.assertEqual(lever_words(program, ("mid", "off"), "d", ("s",)), ("on", "off"))
        self.assertEqual(lever_words(program, ("on", "mid"), "d", ("t",)), ("on", "on"))

    def test_least_sets(self):
        self.assertEqual(least_reasons(TWO, ALL_OFF, "d"), [("s",), ("t",)])
        self.assertEqual(least_levers(TWO, ALL_OFF, "d"), [("s", "t")])
        self.assertEqual(least_reasons(TWO, ALL_ON, "d"), [("s", "t")])
        self.assertEqual(least_levers(TWO, ALL_ON, "d"), [("s",), ("t",)])
        for name in ("n", "f"):
            self.assertEqual(least_reasons(TWO, ALL_ON, name), [()])
            self.assertEqual(least_levers(TWO, ALL_ON, name), [])

    def test_the_order_of_least_sets(self):
        # v decides alone if it is "on"; otherwise s and u do, or t and u.
        rows = (
            ("read", "v", "x"), ("if", "x", "on", (("give", "x"),), ()), ("read", "u", "x"),
            ("if", "x", "on", (("read", "s", "y"), ("if", "y", "on", (("give", "y"),), ()), ("read", "t", "y"),
                               ("give", "y")), ()),
            ("give", "x"),
        )
        program = Program(WORDS, ("s", "t", "u", "v"), (("d", rows),), ())
        self.assertEqual(least_reasons(program, ("on", "on", "on", "on"), "d"), [("v",), ("s", "u"), ("t", "u")])
        self.assertEqual(least_levers(program, ("on", "on", "on", "on"), "d"), [("u", "v"), ("s", "t", "v")])
        self.assertEqual(least_levers(program, ("off", "off", "off", "off"), "d"), [("v",), ("s", "u"), ("t", "u")])

    def test_deciding_sources(self):
        self.assertEqual(deciding_sources(TWO, ALL_OFF, "d"), ("s", "t"))
        self.assertEqual(deciding_sources(TWO, ("on", "off"), "d"), ("t",))
        self.assertEqual(deciding_sources(TWO, ("off", "on"), "d"), ("s",))
        self.assertEqual(deciding_sources(TWO, ALL_ON, "n"), ())
        self.assertEqual(deciding_sources(TWO, ("off", "on"), "e"), ("s", "t"))

    def test_four_sources(self):
        program = four()
        words = ("on", "off", "off", "off")
        for name in ("d", "e"):
            self.assertEqual(least_reasons(program, words, name), [("u", "v")])
            self.assertEqual(least_levers(program, words, name), [("u",), ("v",)])
            self.assertEqual(deciding_sources(program, words, name), ("u", "v"))
            self.assertEqual(shares(program, words, name), [(0, 1), (0, 1), (1, 4), (1, 4)])

    def test_lists_are_new_ones(self):
        for call in (least_reasons, least_levers, shares):
            first = call(TWO, ALL_ON, "d")
            self.assertIs(type(first), list)
            due = list(first)
            first.clear()
            self.assertEqual(call(TWO, ALL_ON, "d"), due)


class ShareTest(unittest.TestCase):
    def test_certainty(self):
        self.assertEqual(certainty(TWO, ALL_OFF, "d", ()), (3, 4))
        self.assertEqual(certainty(TWO, ALL_ON, "d", ()), (1, 4))
        self.assertEqual(certainty(TWO, ALL_ON, "d", ("s",)), (1, 2))
        self.assertEqual(certainty(TWO, ("on", "off"), "d", ("s",)), (1, 2))
        self.assertEqual(certainty(TWO, ("on", "off"), "d", ("t",)), (1, 1))
        self.assertEqual(certainty(TWO, ALL_ON, "d", ("s", "t")), (1, 1))
        self.assertEqual(certainty(TWO, ALL_ON, "n", ()), (1, 1))

    def test_one_source(self):
        for word in WORDS:
            self.assertEqual(certainty(example(), (word,), "d", ()), (1, 2))
            self.assertEqual(certainty(example(), (word,), "d", ("s",)), (1, 1))
            self.assertEqual(shares(example(), (word,), "d"), [(1, 2)])

    def test_three_words(self):
        program = Program(("off", "on", "mid"), ("s", "t"), (("d", BOTH),), ())
        self.assertEqual(certainty(program, ("on", "on"), "d", ()), (1, 9))
        self.assertEqual(certainty(program, ("on", "off"), "d", ()), (4, 9))
        self.assertEqual(certainty(program, ("off", "on"), "d", ("t",)), (1, 3))
        self.assertEqual(certainty(program, ("off", "off"), "d", ("t",)), (2, 3))

    def test_shares(self):
        self.assertEqual(shares(TWO, ALL_OFF, "d"), [(1, 8), (1, 8)])
        self.assertEqual(shares(TWO, ALL_ON, "d"), [(3, 8), (3, 8)])
        self.assertEqual(shares(TWO, ("on", "off"), "d"), [(-1, 8), (3, 8)])
        self.assertEqual(shares(TWO, ("off", "on"), "d"), [(3, 8), (-1, 8)])
        self.assertEqual(shares(TWO, ALL_OFF, "n"), [(0, 1), (0, 1)])

    def test_fractions_are_pairs_of_integers(self):
        for fraction in shares(TWO, ("on", "off"), "d") + [certainty(TWO, ALL_ON, "d", ())]:
            self.assertEqual([type(fraction), type(fraction[0]), type(fraction[1])], [tuple, int, int])


class WrongTest(ErrorCase):
    CALLS = [telling, least_reasons, least_levers, deciding_sources, shares]
    CALLS_WITH_SETS = [is_reason, is_lever, lever_words, certainty]
    WRONG_WORDS = ODD_VALUES + [(), ("on",), ("on", "on", "on"), ("on", "up"), ["on", "on"], ("on", None), ("s", "t"),
                                ("on", ["on"]), "onon"]
    WRONG_NAMES = ["s", "t", "q", "x", "on", "", None, True, 0, ("d",), ["d"], {}]

    def test_wrong_words_come_first(self):
        for words in self.WRONG_WORDS + deep_values():
            for name in ("d", "e", "s", "q", None, []):
                for call in self.CALLS:
                    self.raises(InvalidStart, {"words": words}, call, TWO, words, name)
                for call in self.CALLS_WITH_SETS:
                    for sources in ((), ("s",), ["s"], None):
                        self.raises(InvalidStart, {"words": words}, call, TWO, words, name, sources)

    def test_then_names(self):
        for name in self.WRONG_NAMES + deep_values():
            for call in self.CALLS:
                self.raises(UnknownCell, {"name": name}, call, TWO, ALL_ON, name)
            for call in self.CALLS_WITH_SETS:
                for sources in ((), ("s",), ["s"], None):
                    self.raises(UnknownCell, {"name": name}, call, TWO, ALL_ON, name, sources)

    def test_then_sets(self):
        for value in NO_SETS + deep_values():
            for call in (lever_words, certainty):
                for name in ("d", "n", "e"):
                    self.raises(InvalidSources, {"sources": value}, call, TWO, ALL_ON, name, value)

    def test_arguments_by_name(self):
        given = {"program": TWO, "words": ALL_ON, "name": "d"}
        self.assertEqual(telling(**given), ("on", (), ()))
        self.assertEqual(least_reasons(**given), [("s", "t")])
        self.assertEqual(least_levers(**given), [("s",), ("t",)])
        self.assertEqual(deciding_sources(**given), ("s", "t"))
        self.assertEqual(shares(**given), [(3, 8), (3, 8)])
        self.assertTrue(is_lever(value=("s",), **given))
        self.assertFalse(is_reason(value=("s",), **given))
        self.assertEqual(lever_words(sources=("s",), **given), ("off", "on"))
        self.assertEqual(certainty(sources=("s",), **given), (1, 2))
