"""Point 45: counts of runs and rows that are never done, by hand, and their errors."""

import itertools

from tests.cases import ErrorCase, NO_BOUNDS, RIGHT_DEEDS, THREE, WRONG_DEEDS, deep_values
from tests.samples import COPY, NO_NAMES, ODD_VALUES, OFF, ON, WORDS, example, give, say
from tests.test_books import ENDLESS
from tests.test_spreading import counter
from toldonward.books import Book
from toldonward.counting import costs, most_runs, never_done
from toldonward.errors import InvalidBound, InvalidDeed, InvalidStart, UnknownName
from toldonward.programs import Program
from toldonward.rules import Rule, all_rules

PUSH = Rule("push", True, "later")
LEVEL = Rule("level", True, "later")


class MostRunsTest(ErrorCase):
    def test_the_example(self):
        book = Book(example(), PUSH)
        self.assertEqual(most_runs(book, "e"), (2, (("off",), (ON,))))
        self.assertEqual(most_runs(book, "d"), (1, (("off",), ())))
        self.assertEqual(most_runs(book=Book(example(), LEVEL), name="e"), (1, (("off",), ())))

    def test_the_least_run_of_several(self):
        # d reads s ahead of c, so behind its first run a write of s runs it twice.
        both = (("read", "s", "x"), ("read", "c", "x"), ("give", "x"))
        program = Program(WORDS, ("s",), (("c", give("s")), ("d", both)), ())
        self.assertEqual(most_runs(Book(program, PUSH), "d"), (2, (("off",), (("read", "d"), ON))))
        self.assertEqual(most_runs(Book(program, LEVEL), "d"), (1, (("off",), (("read", "d"),))))

    def test_runs_of_a_start(self):
        writer = (("put", "y", "on"), ("write", "s", "y"))
        program = Program(WORDS, ("s",), (), (("e", say("s")), ("f", writer)))
        self.assertEqual(most_runs(Book(program, PUSH), "e"), (2, (("off",), ())))
        self.assertEqual(most_runs(Book(program, PUSH), "f"), (1, (("off",), ())))

    def test_names_come_first(self):
        for book in (Book(example(), PUSH), Book(example(), PUSH, most=1), Book(ENDLESS, PUSH)):
            for name in NO_NAMES + ODD_VALUES + deep_values() + ["s", "q", "on", "x", "dd", "ee"]:
                self.raises(UnknownName, {"name": name}, most_runs, book, name)

    def test_none_where_the_book_is_too_long(self):
        book = Book(example(), PUSH, most=1)
        for name in ("d", "e"):
            self.assertIsNone(most_runs(book, name))
        self.assertIsNone(most_runs(Book(ENDLESS, PUSH), "e"))
        self.assertEqual(most_runs(Book(example(), PUSH, most=2), "e"), (2, (("off",), (ON,))))


class NeverDoneTest(ErrorCase):
    def test_all_rows(self):
        self.assertEqual(never_done(Book(example(), PUSH)), [])

    def test_rows_in_program_order(self):
        dead = ("if", "q", "on", (("put", "x", "on"), ("if", "x", "on", (("read", "t", "y"),), ())), (("put", "x", "off"),))
        program = Program(WORDS, ("s", "t"), (("d", COPY + (("give", "y"),)), ("c", (dead,))), (
            ("e", (("read", "s", "x"), dead)), ("f", ())))
        due = [("derived", 0, 2), ("derived", 1, 0, 0, 0), ("derived", 1, 0, 0, 1), ("derived", 1, 0, 0, 1, 0, 0),
               ("effects", 0, 1, 0, 0), ("effects", 0, 1, 0, 1), ("effects", 0, 1, 0, 1, 0, 0)]
        for rule in all_rules():
            self.assertEqual(never_done(Book(program, rule)), due)

    def test_rows_that_deeds_alone_do(self):
        # No effect reads d, so its rows are done in reads from outside.
        program = Program(WORDS, ("s",), (("d", (("read", "s", "x"), ("if", "x", "on", (("give", "x"),), ()))),), ())
        self.assertEqual(never_done(Book(program, PUSH)), [])

    def test_too_long_deeds_do_no_rows(self):
        self.assertEqual(never_done(Book(ENDLESS, PUSH)), ENDLESS.row_paths())
        rows = (("read", "s", "x"), ("read", "d", "y"), ("if", "y", "on", (("if", "x", "off", (("say", "x"),), ()),), ()))
        program = Program(WORDS, ("s",), (("d", COPY),), (("e", rows),))
        # Only behind a write of "off" e is told "on" by d beside it.
        self.assertEqual(never_done(Book(program, PUSH)), [])
        self.assertEqual(never_done(Book(program, PUSH, most=1)), [("effects", 0, 2, 0, 0, 0, 0)])

    def test_a_new_list(self):
        book = Book(ENDLESS, PUSH)
        never_done(book).clear()
        self.assertEqual(never_done(book=book), ENDLESS.row_paths())


class CostsTest(ErrorCase):
    def test_the_example(self):
        self.assertEqual(costs(example(), (("off",), (ON,))), [(3, 2)] * 4 + [(2, 2)] * 8)

    def test_the_whole_run(self):
        self.assertEqual(costs(example(), (("off",), ())), [(1, 1)] * 12)
        deeds = (ON, OFF, OFF, ("read", "d"), ("read", "s"), ("batch", (("s", "on"),)))
        found = costs(program=example(), run=(("off",), deeds), most=200)
        # Behind the first write d is asked by e, so d is told first and e is run twice again.
        self.assertEqual(found, [(9, 5)] * 2 + [(7, 4)] * 2 + [(5, 5)] * 2 + [(4, 4)] * 2 + [(5, 5)] * 2 + [(4, 4)] * 2)

    def test_batches_of_three_and_reads_of_sources(self):
        deeds = tuple(RIGHT_DEEDS)
        self.assertEqual(len(costs(THREE, (("off", "off", "off"), deeds))), 12)
        for deed in deeds:
            self.assertNotIn(None, costs(THREE, (("on", "mid", "off"), (deed, deed))))

    def test_none_where_it_is_too_long(self):
        self.assertEqual(costs(example(), (("off",), (ON,)), most=1), [None] * 4 + [(2, 2)] * 8)
        self.assertEqual(costs(example(), (("off",), (OFF,)), most=1), [
            None if rule.mode == "push" and not rule.cut else (1, 1) if rule.cut else (2, 2) for rule in all_rules()])
        self.assertEqual(costs(ENDLESS, (("off",), (ON, ON))), [None] * 12)
        # A deed that is too long in the middle.
        self.assertEqual(costs(example(), (("off",), (OFF, ON, OFF)), most=1)[:4], [None] * 4)

    def test_two_hundred_where_it_is_left_out(self):
        program = counter()
        for words in (("off", "off", "mid", "top"), ("top", "off", "top", "mid"), ("on", "off", "off", "on")):
            self.assertEqual(costs(program, (words, ())), costs(program, (words, ()), most=200))
        self.assertNotEqual(costs(program, (("on", "off", "off", "on"), ())),
                            costs(program, (("on", "off", "off", "on"), ()), most=2000))

    def test_bounds_then_starts_then_deeds(self):
        wrong = ODD_VALUES + [(), ("up",), ("on", "on"), ["on"], (None,), (True,), (["on"],)]
        for most, words, deeds in itertools.product(NO_BOUNDS + deep_values(), (("off",), None), ((), (None,))):
            self.raises(InvalidBound, {"value": most}, costs, example(), (words, deeds), most=most)
        for words, deeds in itertools.product(wrong + deep_values(), ((), (ON,), (None, ON))):
            self.raises(InvalidStart, {"words": words}, costs, example(), (words, deeds), most=1)
        for deed in WRONG_DEEDS + ODD_VALUES + deep_values():
            start = ("off", "off", "off")
            self.raises(InvalidDeed, {"deed": deed}, costs, THREE, (start, (deed,)))
            self.raises(InvalidDeed, {"deed": deed}, costs, THREE, (start, (RIGHT_DEEDS[0], deed, None, ("read",))), most=1)
        # Wrong deeds are told also where the start is too long under each rule.
        deed = ("write",)
        self.raises(InvalidDeed, {"deed": deed}, costs, ENDLESS, (("off",), (ON, deed)), most=1)
        self.assertRaises(TypeError, costs, example(), (("off",), ()), 200)

    def test_a_new_list(self):
        run = (("off",), (ON,))
        first = costs(example(), run)
        first.clear()
        self.assertEqual(costs(example(), run), [(3, 2)] * 4 + [(2, 2)] * 8)
        self.assertEqual(run, (("off",), (ON,)))
