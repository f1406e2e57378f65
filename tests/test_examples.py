"""The examples of the document."""

import unittest

from tests.samples import example
from toldonward.alike import classes, difference, parting
from toldonward.books import Book
from toldonward.counting import costs, most_runs
from toldonward.desk import Desk
from toldonward.errors import InvalidProgram, InvalidText, LimitExceeded, TooManyRuns
from toldonward.heals import heals, rules_free, with_changes
from toldonward.judge import faults
from toldonward.live import Live
from toldonward.plain import is_plain, plain_begin
from toldonward.programs import Program
from toldonward.reasons import least_levers, least_reasons, shares
from toldonward.rules import Rule
from toldonward.spreading import begin, step
from toldonward.texts import format_deeds, parse_program
from toldonward.truth import true_run
from toldonward.verdicts import Verdict
from toldonward.why import reached, steering


PUSH = Rule("push", True, "later")


def both():
    """The program of the last two examples."""
    rows = (("read", "s", "x"), ("if", "x", "on", (("read", "t", "x"),), ()), ("give", "x"))
    return Program(("off", "on"), ("s", "t"), (("d", rows),), ())


class ExamplesTest(unittest.TestCase):
    def test_cells(self):
        self.assertEqual(example().cells(), ("s", "d"))

    def test_row_paths(self):
        self.assertEqual(example().row_paths(), [
            ("derived", 0, 0), ("derived", 0, 1), ("effects", 0, 0), ("effects", 0, 1), ("effects", 0, 2),
        ])

    def test_a_derived_cell_that_reads_itself(self):
        with self.assertRaises(InvalidProgram) as caught:
            Program(("off", "on"), ("s",), (("d", (("read", "d", "x"),)),), ())
        self.assertEqual((caught.exception.part, caught.exception.path), ("rows", ("derived", 0, 0)))

    def test_true_run(self):
        self.assertEqual(true_run(example(), ("on",), "e")["notes"], (("s", "on"), ("d", "on")))

    def test_reasons(self):
        program = both()
        self.assertEqual(least_reasons(program, ("off", "off"), "d"), [("s",), ("t",)])
        self.assertEqual([least_levers(program, ("off", "off"), "d"), least_levers(program, ("on", "on"), "d")],
                         [[("s", "t")], [("s",), ("t",)]])
        self.assertEqual(shares(program, ("on", "off"), "d"), [(-1, 8), (3, 8)])

    def test_why(self):
        program = both()
        self.assertEqual([reached(program, ("off", "off"), "d"), reached(program, ("on", "off"), "d")],
                         [("s",), ("s", "t")])
        self.assertEqual(steering(program, ("off", "off"), "d", ("on", (), ())), [(("s", "t"), ("on", "on"))])

    def test_begin(self):
        first = begin(example(), Rule("push", True, "later"), ("off",))
        self.assertEqual(first.events, (
            ("set", "s", "off"), ("run", "e"), ("read", "e", "s", "off"), ("run", "d"), ("read", "d", "s", "off"),
            ("end", "d", "off"), ("read", "e", "d", "off"), ("say", "e", "off"), ("end", "e", None)))
        self.assertEqual(first.after, (
            ("off",), (("off", False, (("s", "off"),)),), (((("s", "off"), ("d", "off")), ()),), (("e", "d"), ("e",))))

    def test_step(self):
        rule = Rule("push", True, "later")
        first = begin(example(), rule, ("off",))
        second = step(example(), rule, first.after, ("write", "s", "on"))
        self.assertEqual(second.log, (("e", "off"), ("e", "on")))
        self.assertEqual(faults(example(), second.before, second.events), [("mixed", "e"), ("twice", "e")])

    def test_faults(self):
        rows = (("read", "d", "y"), ("read", "s", "x"), ("say", "y"))
        program = Program(("off", "on"), ("s",), example().derived, (("e", rows),))
        rule = Rule("push", True, "later")
        first = begin(program, rule, ("off",))
        second = step(program, rule, first.after, ("write", "s", "on"))
        self.assertEqual(faults(program, second.before, second.events), [("twice", "e"), ("needless", "e")])

    def test_live(self):
        live = Live(example(), Rule("pull", True, "later"), ("off",))
        self.assertEqual(live.write("s", "on"), [("e", "on")])

    def test_an_effect_that_writes_its_own_source(self):
        program = Program(("off", "on"), ("s",), (), (("e", (("read", "s", "x"), ("write", "s", "x"))),))
        with self.assertRaises(TooManyRuns) as caught:
            begin(program, Rule("level", False, "once"), ("off",), most=5)
        self.assertEqual(caught.exception.most, 5)
        self.assertEqual(begin(program, Rule("level", True, "once"), ("off",)).events, (
            ("set", "s", "off"), ("run", "e"), ("read", "e", "s", "off"), ("write", "e", "s", "off"),
            ("end", "e", None)))

    def test_texts(self):
        with self.assertRaises(InvalidText) as caught:
            parse_program("words off on\nsources s\neffect e\nsay\n")
        self.assertEqual(caught.exception.line, 4)
        deeds = [("write", "s", "on"), ("batch", (("s", "off"), ("t", "on"))), ("read", "d")]
        self.assertEqual(format_deeds(deeds), "write s on\nbatch s off t on\nread d\n")

    def test_books(self):
        book = Book(example(), PUSH)
        self.assertEqual(len(book), 4)
        self.assertEqual(book.faults(), [("mixed", "e"), ("twice", "e"), ("needless", "e")])
        self.assertEqual(book.least_fault("needless", "e"), (("off",), (("write", "s", "on"), ("write", "s", "off"))))
        with self.assertRaises(LimitExceeded) as caught:
            Book(example(), PUSH, limit=3)
        self.assertEqual(caught.exception.limit, 3)

    def test_difference(self):
        self.assertEqual(difference((example(), PUSH), (example(), Rule("level", True, "later"))),
                         (("off",), (("write", "s", "on"),)))

    def test_classes_and_parting(self):
        book = Book(example(), PUSH)
        standings = book.standings()
        self.assertEqual([classes(book), parting(book, standings[0], standings[3])],
                         [[[0], [1], [2], [3]], (("write", "s", "on"),)])

    def test_plain(self):
        self.assertEqual(plain_begin(example(), ("off",)),
                         ((("off",), ((("s", "off"), ("d", "off")),)), (("e", "off"),)))
        self.assertEqual([is_plain(example(), Rule("pull", True, "later")), is_plain(example(), PUSH)], [True, False])

    def test_counting(self):
        self.assertEqual(costs(example(), (("off",), (("write", "s", "on"),))),
                         [(3, 2), (3, 2), (3, 2), (3, 2), (2, 2), (2, 2), (2, 2), (2, 2), (2, 2), (2, 2), (2, 2), (2, 2)])
        self.assertEqual(most_runs(Book(example(), PUSH), "e"), (2, (("off",), (("write", "s", "on"),))))

    def test_heals(self):
        self.assertEqual(with_changes(example(), [("early", ("effects", 0, 1))]).body("e"),
                         (("read", "d", "a"), ("read", "s", "x"), ("read", "d", "y"), ("say", "y")))
        candidates = [("peek", ("effects", 0, 0)), ("early", ("effects", 0, 1))]
        self.assertEqual(heals(example(), PUSH, "mixed", candidates),
                         [(("peek", ("effects", 0, 0)),), (("early", ("effects", 0, 1)),)])
        self.assertEqual(len(rules_free(example(), ["mixed"])), 8)

    def test_verdicts(self):
        first = Verdict([("twice", "e"), ("mixed", "e")])
        self.assertEqual((first | Verdict([("mixed", "d")])).pairs(), [("mixed", "d"), ("mixed", "e"), ("twice", "e")])

    def test_desk(self):
        desk = Desk(example(), [PUSH])
        desk[("effects", 0, 0)] = ("peek", "s", "x")
        self.assertEqual([desk.current.body("e"), len(desk)], [(("peek", "s", "x"), ("read", "d", "y"), ("say", "y")), 1])
