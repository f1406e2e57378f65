"""Points 55 to 58: what runs reach, wasted runs, and steering."""

import copy
import unittest

from tests.cases import deep_values
from tests.samples import ODD_VALUES, WORDS, example
from toldonward.errors import InvalidStanding, InvalidStart, UnknownCell
from toldonward.programs import Program
from toldonward.rules import Rule, all_rules
from toldonward.why import kept_reach, reached, reasons_within, steering, wasted

BOTH = (("read", "s", "x"), ("if", "x", "on", (("read", "t", "x"),), ()), ("give", "x"))
CHAIN = (("read", "d", "x"), ("if", "x", "on", (("read", "u", "x"),), ()), ("give", "x"))
SAYS = (("read", "u", "x"), ("if", "x", "on", (("peek", "c", "y"),), ()), ("say", "y"))
# d is "on" if s and t are, c if u is, too; the effect e peeks c if u is "on".
THREE = Program(WORDS, ("s", "t", "u"), (("d", BOTH), ("c", CHAIN)), (("e", SAYS), ("f", ())))
PULL = Rule("pull", True, "later")
PUSH = Rule("push", True, "later")


class ReachedTest(unittest.TestCase):
    def test_through_derived_cells(self):
        self.assertEqual(reached(THREE, ("off", "on", "on"), "d"), ("s",))
        self.assertEqual(reached(THREE, ("on", "off", "on"), "d"), ("s", "t"))
        self.assertEqual(reached(THREE, ("on", "off", "on"), "c"), ("s", "t"))
        self.assertEqual(reached(THREE, ("on", "on", "off"), "c"), ("s", "t", "u"))

    def test_with_peeks(self):
        self.assertEqual(reached(THREE, ("off", "on", "on"), "e"), ("s", "u"))
        self.assertEqual(reached(THREE, ("on", "off", "on"), "e"), ("s", "t", "u"))
        self.assertEqual(reached(THREE, ("on", "off", "off"), "e"), ("u",))
        self.assertEqual(reached(THREE, ("on", "off", "off"), "f"), ())

    def test_the_order_of_the_sources(self):
        rows = (("peek", "u", "x"), ("read", "t", "x"), ("read", "u", "y"), ("peek", "s", "z"), ("peek", "d", "z"))
        program = Program(WORDS, ("u", "s", "t"), (("d", (("read", "t", "x"),)),), (("e", rows),))
        self.assertEqual(reached(program, ("off", "off", "off"), "e"), ("u", "s", "t"))

    def test_reasons_within(self):
        self.assertEqual(reasons_within(THREE, ("off", "off", "off"), "d"), [("s",)])
        self.assertEqual(reasons_within(THREE, ("on", "off", "off"), "d"), [("t",)])
        self.assertEqual(reasons_within(THREE, ("off", "off", "off"), "c"), [("s",)])
        self.assertEqual(reasons_within(THREE, ("on", "on", "on"), "c"), [("s", "t", "u")])
        self.assertEqual(reasons_within(THREE, ("on", "on", "off"), "f"), [()])
        both = (("read", "s", "x"), ("read", "t", "y"), ("if", "x", "on", (("give", "y"),), ()), ("give", "x"))
        program = Program(WORDS, ("s", "t"), (("d", both),), ())
        self.assertEqual(reasons_within(program, ("off", "off"), "d"), [("s",), ("t",)])

    def test_a_new_list_each_time(self):
        first = reasons_within(THREE, ("off", "off", "off"), "d")
        self.assertIs(type(first), list)
        first.clear()
        self.assertEqual(reasons_within(THREE, ("off", "off", "off"), "d"), [("s",)])


class KeptReachTest(unittest.TestCase):
    # No history reaches this: d has noted u, and e peeks d and has noted s.
    ODD = (
        ("off", "off", "off"),
        (("on", False, (("u", "on"),)), None),
        (((("s", "on"),), (("d", "off"), ("t", "on"))), ((), ())),
        (("e",), (), ("d",), (), ()),
    )

    def test_notes_and_peeks_of_the_standing(self):
        for rule in all_rules():
            self.assertEqual(kept_reach(THREE, rule, self.ODD, "d"), ("u",))
            self.assertEqual(kept_reach(THREE, rule, self.ODD, "e"), ("s", "t", "u"))

    def test_bodies_that_have_no_run(self):
        self.assertEqual(kept_reach(THREE, PUSH, self.ODD, "c"), ())
        self.assertEqual(kept_reach(THREE, PUSH, self.ODD, "f"), ())

    def test_through_several_derived_cells(self):
        standing = (
            ("off", "off", "off"),
            (("on", True, (("s", "on"), ("t", "on"))), ("off", False, (("d", "off"),))),
            (((("c", "on"),), ()), ((), (("d", "on"),))),
            (("d",), ("d",), (), ("c",), ("e",)),
        )
        for name in ("d", "c", "e", "f"):
            self.assertEqual(kept_reach(THREE, PULL, standing, name), ("s", "t"))
            with self.assertRaises(InvalidStanding):
                kept_reach(THREE, PUSH, standing, name)

    def test_wrong_standings_come_first(self):
        for value in ODD_VALUES + deep_values() + [(), self.ODD[:3], list(self.ODD), self.ODD + ((),)]:
            for name in ("d", "e", "q", None, []):
                with self.assertRaises(InvalidStanding) as caught:
                    kept_reach(THREE, PUSH, value, name)
                self.assertEqual(vars(caught.exception), {})

    def test_then_names(self):
        for name in ("s", "t", "q", "on", "", None, True, 0, ("d",), ["d"], {}):
            with self.assertRaises(UnknownCell) as caught:
                kept_reach(THREE, PUSH, self.ODD, name)
            self.assertIs(caught.exception.name, name)


class WastedTest(unittest.TestCase):
    # "e" says the word of d; "f" says a word that is always the same; "g" has no rows.
    PROGRAM = Program(WORDS, ("s", "t"), (("d", BOTH),), (
        ("e", (("read", "d", "x"), ("say", "x"))),
        ("f", (("read", "s", "x"), ("read", "t", "x"), ("say", "y"))), ("g", ()),
    ))

    def standing(self, words):
        return (words, (None,), (((), ()), ((), ()), ((), ())), ((), (), ()))

    def told(self, words, *events):
        return wasted(self.PROGRAM, self.standing(words), events)

    def test_what_stays_the_same_decides(self):
        runs = (("run", "e"), ("end", "e", None))
        # t counts only if s is "on".
        self.assertEqual(self.told(("off", "off"), ("set", "t", "on"), *runs), ("e",))
        self.assertEqual(self.told(("on", "off"), ("set", "t", "on"), *runs), ())
        self.assertEqual(self.told(("off", "off"), ("set", "s", "on"), *runs), ("e",))
        self.assertEqual(self.told(("off", "off"), ("set", "s", "on"), ("set", "t", "on"), *runs), ())

    def test_words_that_stay_the_same(self):
        self.assertEqual(self.told(("on", "on"), ("set", "s", "on"), ("run", "e"), ("end", "e", None)), ("e",))

    def test_the_last_set_event_counts(self):
        runs = (("run", "e"), ("end", "e", None))
        self.assertEqual(self.told(("on", "on"), ("set", "t", "off"), *runs, ("set", "t", "on")), ("e",))
        self.assertEqual(self.told(("on", "on"), ("set", "t", "on"), *runs, ("set", "t", "off")), ())

    def test_effects_alone_in_program_order(self):
        events = (("set", "t", "on"), ("run", "f"), ("end", "f", None), ("run", "d"), ("end", "d", "off"),
                  ("run", "e"), ("end", "e", None), ("run", "f"), ("end", "f", None))
        self.assertEqual(self.told(("off", "off"), *events), ("e", "f"))
        self.assertEqual(self.told(("on", "off"), *events), ("f",))

    def test_effects_without_a_run(self):
        self.assertEqual(self.told(("off", "off"), ("set", "t", "on")), ())
        self.assertEqual(self.told(("off", "off")), ())
        self.assertEqual(self.told(("off", "off"), ("set", "t", "on"), ("run", "d"), ("read", "d", "s", "off")), ())

    def test_several_sources(self):
        rows = (("read", "u", "x"), ("if", "x", "on", (("read", "c", "y"),), ()), ("say", "y"))
        program = Program(WORDS, ("s", "t", "u"), (("d", BOTH), ("c", CHAIN)), (("e", rows),))
        before = (("on", "off", "off"), (None, None), (((), ()),), ((), (), (), (), ()))
        events = (("set", "s", "off"), ("set", "t", "on"), ("run", "e"), ("end", "e", None))
        self.assertEqual(wasted(program, before, events), ("e",))
        before = (("on", "off", "on"),) + before[1:]
        self.assertEqual(wasted(program, before, events[1:]), ())


class SteeringTest(unittest.TestCase):
    def test_a_value_that_is_told_already(self):
        self.assertEqual(steering(THREE, ("off", "on", "off"), "d", ("off", (), ())), [((), ("off", "on", "off"))])
        self.assertEqual(steering(THREE, ("off", "on", "off"), "f", (None, (), ())), [((), ("off", "on", "off"))])

    def test_a_value_that_is_told_elsewhere(self):
        on = ("on", (), ())
        self.assertEqual(steering(THREE, ("off", "off", "off"), "d", on), [(("s", "t"), ("on", "on", "off"))])
        self.assertEqual(steering(THREE, ("on", "off", "on"), "d", on), [(("t",), ("on", "on", "on"))])
        self.assertEqual(steering(THREE, ("on", "on", "off"), "d", ("off", (), ())),
                         [(("s",), ("off", "on", "off")), (("t",), ("on", "off", "off"))])
        self.assertEqual(steering(THREE, ("off", "off", "off"), "e", (None, ("on",), ())),
                         [(("s", "t", "u"), ("on", "on", "on"))])

    def test_the_first_words(self):
        # Everything but "off" is told to be "mid".
        rows = (("read", "s", "x"), ("if", "x", "off", (), (("put", "x", "mid"),)), ("give", "x"))
        program = Program(("on", "mid", "off"), ("t", "s"), (("d", rows),), ())
        self.assertEqual(steering(program, ("off", "off"), "d", ("mid", (), ())), [(("s",), ("off", "on"))])

    def test_a_value_that_is_told_nowhere(self):
        for due in (("mid", (), ()), (None, (), ()), ("on", ("on",), ()), ("on", (), (("s", "on"),))):
            self.assertEqual(steering(THREE, ("off", "off", "off"), "d", due), [])
        for due in ((None, ("mid",), ()), ("off", (), ()), (None, (), ())):
            self.assertEqual(steering(THREE, ("off", "off", "off"), "e", due), [])

    def test_values_that_are_no_tellings(self):
        others = ["on", ("on",), ("on", ()), ["on", (), ()], ("on", [], ()), ("on", (), (), ()), (("on", (), ()),)]
        for due in ODD_VALUES + deep_values() + others:
            self.assertEqual(steering(THREE, ("off", "off", "off"), "d", due), [])

    def test_values_are_not_modified(self):
        for value in ([["on", (), ()]], {"a": [1]}, (["on"], [], {})):
            before = copy.deepcopy(value)
            steering(THREE, ("off", "off", "off"), "d", value)
            self.assertRaises(InvalidStanding, kept_reach, THREE, PUSH, value, "d")
            self.assertRaises(InvalidStart, reached, THREE, value, "d")
            self.assertEqual(value, before)

    def test_a_new_list_each_time(self):
        first = steering(THREE, ("off", "off", "off"), "d", ("off", (), ()))
        self.assertIs(type(first), list)
        first.clear()
        self.assertEqual(len(steering(THREE, ("off", "off", "off"), "d", ("off", (), ()))), 1)


class WrongTest(unittest.TestCase):
    WRONG_WORDS = ODD_VALUES + [(), ("on",), ("on", "on", "on", "on"), ("on", "on", "up"), ["on", "on", "on"],
                                ("on", "on", None)]

    def calls(self, words, name):
        return [lambda: reached(THREE, words, name), lambda: reasons_within(THREE, words, name),
                lambda: steering(THREE, words, name, ("on", (), ())), lambda: steering(THREE, words, name, None)]

    def test_wrong_words_come_first(self):
        for words in self.WRONG_WORDS + deep_values():
            for name in ("d", "e", "s", "q", None, []):
                for call in self.calls(words, name):
                    with self.assertRaises(InvalidStart) as caught:
                        call()
                    self.assertIs(caught.exception.words, words)

    def test_then_names(self):
        for name in ["s", "u", "q", "on", "", None, True, 0, ("d",), ["d"], {}] + deep_values():
            for call in self.calls(("on", "off", "on"), name):
                with self.assertRaises(UnknownCell) as caught:
                    call()
                self.assertIs(caught.exception.name, name)

    def test_arguments_by_name(self):
        given = {"program": example(), "words": ("on",), "name": "e"}
        self.assertEqual(reached(**given), ("s",))
        self.assertEqual(reasons_within(**given), [("s",)])
        self.assertEqual(steering(due=(None, ("off",), ()), **given), [(("s",), ("off",))])
        standing = (("on",), (None,), (((("s", "on"),), ()),), (("e",), ()))
        self.assertEqual(kept_reach(program=example(), rule=PUSH, standing=standing, name="e"), ("s",))
        self.assertEqual(wasted(program=example(), before=standing, events=()), ())
