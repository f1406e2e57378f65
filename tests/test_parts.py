"""Points 4 and 7: the four parts of a program, and which of them fails first."""

import unittest

from tests.samples import COPY, NO_NAMES, ODD_VALUES, WORDS
from toldonward.errors import InvalidProgram
from toldonward.programs import Program

NAMES = ("a", "b", "c", "dd", "ee", "ff", "gg", "hh")


def pairs(many, first=0):
    return tuple((name, ()) for name in NAMES[first:first + many])


class PartsTest(unittest.TestCase):
    def fails(self, part, *parts):
        with self.assertRaises(InvalidProgram) as caught:
            Program(*parts)
        self.assertEqual((caught.exception.part, caught.exception.path), (part, ()), parts)
        self.assertIs(type(caught.exception.path), tuple)

    # words

    def test_right_words(self):
        for words in (("a", "b"), ("a", "b", "c"), ("a", "b", "c", "d"), ("abcdefgh", "z")):
            self.assertEqual(Program(words, ("s",), (), ()).words, words)

    def test_numbers_of_words(self):
        for words in ((), ("a",), ("a", "b", "c", "d", "e")):
            self.fails("words", words, ("s",), (), ())

    def test_words_twice(self):
        for words in (("a", "a"), ("a", "b", "a"), ("a", "b", "c", "c")):
            self.fails("words", words, ("s",), (), ())

    def test_words_that_are_no_names(self):
        for value in NO_NAMES:
            self.fails("words", ("a", value), ("s",), (), ())
            self.fails("words", (value, "a"), ("s",), (), ())

    def test_words_that_are_no_tuple(self):
        for value in ODD_VALUES:
            self.fails("words", value, ("s",), (), ())

    # sources

    def test_right_sources(self):
        for many in (1, 2, 3, 4):
            self.assertEqual(Program(WORDS, NAMES[:many], (), ()).sources, NAMES[:many])

    def test_numbers_of_sources(self):
        self.fails("sources", WORDS, (), (), ())
        self.fails("sources", WORDS, NAMES[:5], (), ())

    def test_sources_twice(self):
        self.fails("sources", WORDS, ("s", "s"), (), ())
        self.fails("sources", WORDS, ("s", "t", "u", "s"), (), ())

    def test_sources_that_are_no_names(self):
        for value in NO_NAMES:
            self.fails("sources", WORDS, (value,), (), ())
            self.fails("sources", WORDS, ("s", value), (), ())

    def test_sources_that_are_no_tuple(self):
        for value in ODD_VALUES + ["st", {"s": 1}]:
            self.fails("sources", WORDS, value, (), ())

    def test_words_may_have_names_of_cells_and_effects(self):
        rows = (("read", "off", "on"), ("give", "off"))
        Program(WORDS, ("off",), (("on", rows),), ())
        Program(WORDS, ("s",), (("off", ()),), (("on", (("say", "s"),)),))

    # derived

    def test_right_derived(self):
        for many in range(7):
            self.assertEqual(Program(WORDS, ("s",), pairs(many), ()).derived, pairs(many))

    def test_too_many_derived(self):
        self.fails("derived", WORDS, ("s",), pairs(7), ())
        self.fails("derived", WORDS, ("s",), pairs(8), ())

    def test_derived_that_are_no_tuple(self):
        for value in ODD_VALUES + [[("d", ())], {"d": ()}]:
            self.fails("derived", WORDS, ("s",), value, ())

    def test_derived_names_that_are_taken(self):
        self.fails("derived", WORDS, ("s",), (("d", ()), ("d", ())), ())
        self.fails("derived", WORDS, ("s",), (("d", ()), ("c", ()), ("d", ())), ())
        self.fails("derived", WORDS, ("s", "t"), (("s", ()),), ())
        self.fails("derived", WORDS, ("s", "t"), (("d", ()), ("t", ())), ())

    def test_derived_names_that_are_no_names(self):
        for value in NO_NAMES:
            self.fails("derived", WORDS, ("s",), ((value, ()),), ())
            self.fails("derived", WORDS, ("s",), (("d", ()), (value, ())), ())

    def test_derived_pairs_of_wrong_form(self):
        for pair in (["d", ()], (), ("d",), ("d", (), ()), "dd", "d", None, True, 0, {"d": ()}, {"d": 1, "c": 2}):
            self.fails("derived", WORDS, ("s",), (pair,), ())
            self.fails("derived", WORDS, ("s",), (("c", COPY), pair), ())

    # effects

    def test_right_effects(self):
        for many in range(5):
            self.assertEqual(Program(WORDS, ("s",), (), pairs(many)).effects, pairs(many))
        full = Program(NAMES[:4], ("s", "t", "u", "v"), pairs(6), (("g", ()), ("h", ()), ("i", ()), ("j", ())))
        self.assertEqual(len(full.cells()), 10)

    def test_too_many_effects(self):
        self.fails("effects", WORDS, ("s",), (), pairs(5))
        self.fails("effects", WORDS, ("s",), (), pairs(6))

    def test_effects_that_are_no_tuple(self):
        for value in ODD_VALUES + [[("e", ())], {"e": ()}]:
            self.fails("effects", WORDS, ("s",), (), value)

    def test_effect_names_that_are_taken(self):
        self.fails("effects", WORDS, ("s",), (), (("e", ()), ("e", ())))
        self.fails("effects", WORDS, ("s", "t"), (), (("e", ()), ("t", ())))
        self.fails("effects", WORDS, ("s",), pairs(2), (("b", ()),))
        self.fails("effects", WORDS, ("s",), pairs(2), (("e", ()), ("a", ())))

    def test_effect_names_that_are_no_names(self):
        for value in NO_NAMES:
            self.fails("effects", WORDS, ("s",), (), ((value, ()),))
            self.fails("effects", WORDS, ("s",), (), (("e", ()), (value, ())))

    def test_effect_pairs_of_wrong_form(self):
        for pair in (["e", ()], (), ("e",), ("e", (), ()), "ee", "e", None, True, 0, {"e": ()}, {"e": 1, "f": 2}):
            self.fails("effects", WORDS, ("s",), (), (pair,))
            self.fails("effects", WORDS, ("s",), (), (("c", ()), pair))

    # the order of the faults

    def test_the_first_part_that_fails_is_told(self):
        right = [WORDS, ("s",), (("d", COPY),), (("e", ()),)]
        wrong = [("a",), (), (("s", ()),), (("d", ()),)]
        names = ["words", "sources", "derived", "effects"]
        for first in range(4):
            for second in range(first, 4):
                parts = list(right)
                parts[first] = wrong[first]
                parts[second] = wrong[second]
                self.fails(names[first], *parts)
                for value in ODD_VALUES:
                    parts[second] = value
                    if second > first:
                        self.fails(names[first], *parts)
        for first in range(4):
            self.fails(names[first], *(right[:first] + [None] * (4 - first)))

    def test_what_stands_for_rows_does_not_count_for_the_parts(self):
        for value in ODD_VALUES + [(("read",),), (("give", "x"),) * 20]:
            self.fails("derived", WORDS, ("s",), (("d", value), ("s", ())), ())
            self.fails("effects", WORDS, ("s",), (("d", value),), (("e", value), ("d", ())))
            self.fails("effects", WORDS, ("s",), (("d", value),), None)
