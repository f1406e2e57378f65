"""Points 36 to 39: differences, partings and classes by hand, and their errors."""

import itertools

from tests.cases import ErrorCase, NO_BOUNDS, deep_values
from tests.samples import COPY, ODD_VALUES, OFF, ON, SAY_D, WORDS, example, give, say
from tests.test_books import ENDLESS, HIGH, HIGH_TURNED, LOW, LOW_TURNED, WRITER
from toldonward.alike import alike, classes, difference, parting
from toldonward.books import Book
from toldonward.errors import InvalidBound, LimitExceeded, NoStanding, NotComparable
from toldonward.programs import Program
from toldonward.rules import Rule, all_rules

PUSH = Rule("push", True, "later")
LEVEL = Rule("level", True, "later")
PULL = Rule("pull", True, "later")
NO_LIMITS = [value for value in NO_BOUNDS if value != 2001] + [20001]
READ = ("read", "d")


def program_with(effects, derived=(("d", COPY),), sources=("s",), words=WORDS):
    return Program(words, sources, tuple(derived), tuple(effects))


SILENT = program_with([])
OTHER = program_with([], [("d", (("read", "s", "x"), ("if", "x", "on", (("put", "x", "off"),), ()), ("give", "x")))])


class DifferenceTest(ErrorCase):
    def test_two_rules_of_one_program(self):
        self.assertEqual(difference((example(), PUSH), (example(), LEVEL)), (("off",), (ON,)))
        self.assertIsNone(difference((example(), PULL), (example(), LEVEL)))
        self.assertIs(alike((example(), PUSH), (example(), LEVEL)), False)
        self.assertIs(alike((example(), PULL), (example(), LEVEL)), True)

    def test_a_difference_in_the_start(self):
        first, second = program_with([("e", say("s"))]), program_with([("e", (("say", "x"),))])
        for rule in all_rules():
            self.assertEqual(difference((first, rule), (second, rule)), (("on",), ()))
        # The same words said by an effect of another name are another log.
        third = program_with([("f", say("s"))])
        self.assertEqual(difference((first, PUSH), (third, PUSH)), (("off",), ()))

    def test_words_told(self):
        run = (("on",), (READ,))
        self.assertEqual(difference((SILENT, PUSH), (OTHER, PULL)), run)
        self.assertEqual(difference((OTHER, PULL), (SILENT, PUSH)), run)
        self.assertIsNone(difference((SILENT, PUSH), (OTHER, PULL), says_only=True))
        self.assertFalse(alike((SILENT, PUSH), (OTHER, PULL)))
        self.assertTrue(alike((SILENT, PUSH), (OTHER, PULL), says_only=True))

    def test_reads_of_the_cells_that_both_programs_have(self):
        less = program_with([])
        more = program_with([], [("c", give("s")), ("d", give("c"))])
        wrong = program_with([], [("c", ()), ("d", COPY)])
        self.assertTrue(alike((less, PUSH), (more, PUSH)))
        self.assertTrue(alike((less, PUSH), (wrong, PUSH)))
        self.assertEqual(difference((more, PUSH), (wrong, PUSH)), (("on",), (("read", "c"),)))
        # d is an effect of one of them only, so it is not read.
        effect = program_with([("d", ())], [("c", ())])
        self.assertTrue(alike((OTHER, PUSH), (effect, PUSH)))

    def test_the_order_of_the_reads_is_that_of_the_first_program(self):
        one = program_with([], [("c", ()), ("d", ())])
        two = program_with([], [("d", COPY), ("c", COPY)])
        self.assertEqual(difference((one, PUSH), (two, PUSH)), (("on",), (("read", "c"),)))
        self.assertEqual(difference((two, PUSH), (one, PUSH)), (("on",), (("read", "d"),)))

    def test_batches(self):
        # Under "push" a batch of two writes brings two runs, under "level" only one.
        both = program_with([("e", (("read", "s", "x"), ("read", "t", "y"), ("say", "y")))], (), ("s", "t"))
        batch = ("batch", (("s", "on"), ("t", "on")))
        self.assertEqual(difference((both, PUSH), (both, LEVEL)), (("off", "off"), (batch,)))
        self.assertIsNone(difference((both, PUSH), (both, LEVEL), batches=False))
        self.assertFalse(alike((both, PUSH), (both, LEVEL)))
        self.assertTrue(alike((both, PUSH), (both, LEVEL), batches=False))

    def test_starts_that_are_too_long(self):
        for most in (1, 2, 50):
            self.assertIsNone(difference((ENDLESS, PUSH), (ENDLESS, LEVEL), most=most))
        silent = program_with([("e", ())], ())
        self.assertEqual(difference((ENDLESS, PUSH), (silent, PUSH)), (("off",), ()))
        self.assertEqual(difference((silent, PUSH), (ENDLESS, PUSH)), (("off",), ()))
        # With most 1 only the start with "on" is too long.
        other = program_with([("e", say("s"))], ())
        self.assertEqual(difference((WRITER, PUSH), (other, PUSH), most=1), (("on",), ()))
        self.assertEqual(difference((WRITER, PUSH), (other, PUSH), most=2), (("on",), ()))
        self.assertIsNone(difference((WRITER, PUSH), (WRITER, PULL), most=1))

    def test_deeds_that_are_too_long(self):
        # With most 1 a write of another word is too long under "push" and none under "level".
        self.assertEqual(difference((example(), PUSH), (example(), LEVEL), most=1), (("off",), (ON,)))
        self.assertEqual(difference((example(), LEVEL), (example(), PUSH), most=1), (("off",), (ON,)))
        # Too long in both: no difference, and both stay as they are.
        turned = program_with([("e", (("read", "d", "y"), ("read", "s", "x"), ("say", "y")))])
        self.assertIsNone(difference((example(), PUSH), (turned, PUSH), most=1, limit=2))
        self.assertEqual(difference((example(), PUSH), (turned, PUSH), most=2), (("off",), (ON,)))

    def test_a_pair_and_itself(self):
        for rule in all_rules():
            for program in (example(), SILENT, WRITER, ENDLESS):
                self.assertIsNone(difference((program, rule), (program, rule)))
                self.assertTrue(alike((program, rule), (program, rule), says_only=True, batches=False, most=3, limit=20000))

    def test_sources_then_words(self):
        one = (program_with([], (), ("s", "t"), ("off", "on")), PUSH)
        for sources, words, part in ((("t", "s"), WORDS, "sources"), (("s",), WORDS, "sources"),
                                     (("s", "t", "u"), WORDS, "sources"), (("s", "t"), ("on", "off"), "words"),
                                     (("s", "t"), ("off", "on", "mid"), "words"), (("t", "s"), ("on", "off"), "sources")):
            two = (program_with([], (), sources, words), PUSH)
            for call in (difference, alike):
                for first, second in ((one, two), (two, one)):
                    with self.assertRaises(NotComparable) as caught:
                        call(first, second, limit=1)
                    self.assertEqual(vars(caught.exception), {"part": part})

    def test_wrong_bounds_most_first(self):
        pairs = (example(), PUSH), (example(), LEVEL)
        others = (example(), PUSH), (program_with([], (), ("t",), ("on", "off")), LEVEL)
        for call, both in itertools.product((difference, alike), (pairs, others)):
            for most in NO_BOUNDS + deep_values():
                for limit in (1, 0, None, most):
                    self.raises(InvalidBound, {"value": most}, call, *both, most=most, limit=limit)
            for limit in NO_LIMITS + deep_values():
                self.raises(InvalidBound, {"value": limit}, call, *both, limit=limit)
        for limit in (10001, 19999, 20000):
            self.assertEqual(difference(*pairs, limit=limit), (("off",), (ON,)))

    def test_limits(self):
        same = (example(), PULL), (example(), LEVEL)
        many = next(limit for limit in range(1, 50) if self.is_done(limit, *same))
        self.assertTrue(many > 1)
        for limit in range(1, many):
            for call in (difference, alike):
                self.raises(LimitExceeded, {"limit": limit}, call, *same, limit=limit)
        # Two pairs of standings are found ahead of the least run that shows a difference.
        apart = (example(), PUSH), (example(), LEVEL)
        self.assertEqual(difference(*apart, limit=2), (("off",), (ON,)))
        self.raises(LimitExceeded, {"limit": 1}, difference, *apart, limit=1)

    def is_done(self, limit, first, second):
        try:
            return alike(first, second, limit=limit)
        except LimitExceeded:
            return False

    def test_limits_where_they_are_left_out(self):
        cells = tuple((name, COPY) for name in "abcd")
        words, sources = ("a", "b", "c", "d"), ("s", "t", "u")
        own = Program(words, sources, cells, ())
        # 64 words of the sources, 65 orders in which some of the cells were worked out.
        self.assertTrue(alike((own, PUSH), (own, PUSH), batches=False))
        more = Program(words[:3], sources + ("v",), cells, ())
        with self.assertRaises(LimitExceeded) as caught:
            difference((more, PUSH), (more, PUSH), batches=False)
        self.assertEqual(caught.exception.limit, 5000)

    def test_arguments_by_name(self):
        self.assertEqual(difference(first=(example(), PUSH), second=(example(), LEVEL), says_only=False, batches=True,
                                    most=200, limit=5000), (("off",), (ON,)))
        self.assertRaises(TypeError, difference, (example(), PUSH), (example(), LEVEL), True)


class PartingTest(ErrorCase):
    def test_the_example(self):
        book = Book(example(), PUSH)
        self.assertEqual(classes(book), [[0], [1], [2], [3]])
        self.assertEqual(parting(book, LOW, LOW_TURNED), (ON,))
        self.assertEqual(parting(book, HIGH, HIGH_TURNED), (OFF,))
        self.assertEqual(parting(book, LOW, HIGH), (OFF,))
        self.assertEqual(parting(book=book, first=HIGH_TURNED, second=LOW_TURNED), (OFF,))

    def test_standings_that_are_alike(self):
        # Nothing is said, so whether d has been worked out does not show.
        book = Book(SILENT, PUSH)
        self.assertEqual(len(book), 4)
        groups = classes(book)
        self.assertEqual(groups, [[0, 2], [1, 3]])
        standings = book.standings()
        for group in groups:
            for one, two in itertools.product(group, repeat=2):
                self.assertIsNone(parting(book, standings[one], standings[two]))
        self.assertEqual(parting(book, standings[0], standings[1]), (READ,))

    def test_one_class(self):
        book = Book(program_with([("e", (("read", "s", "x"),))], ()), PUSH)
        self.assertEqual(classes(book), [[0, 1]])
        self.assertIsNone(parting(book, *book.standings()))

    def test_no_standings(self):
        self.assertEqual(classes(Book(ENDLESS, PUSH)), [])

    def test_partings_of_several_deeds(self):
        # e says t only behind a change of s, so first s must be written, and then t.
        rows = (("read", "s", "x"), ("if", "x", "on", (("read", "t", "y"), ("say", "y")), ()))
        program = program_with([("e", rows)], (), ("s", "t"))
        book = Book(program, LEVEL, batches=False)
        standings = {standing[0]: standing for standing in book.standings()}
        self.assertEqual(parting(book, standings[("off", "off")], standings[("off", "on")]), (("write", "s", "on"),))
        copy = program_with([("e", (("read", "s", "x"), ("read", "t", "y"), ("if", "x", "on", (("say", "y"),), ())))], (),
                            ("s", "t"))
        book = Book(copy, LEVEL, batches=False)
        standings = {standing[0]: standing for standing in book.standings()}
        self.assertEqual(parting(book, standings[("off", "off")], standings[("off", "on")]), (("write", "s", "on"),))
        batches = Book(copy, LEVEL)
        self.assertEqual(parting(batches, standings[("off", "off")], standings[("off", "on")]), (("write", "s", "on"),))

    def test_two_deeds_are_needed(self):
        # d is told only where t is "on"; under "push" whether d reads s shows when s and t are both "on".
        both = (("read", "t", "x"), ("if", "x", "on", (("read", "s", "x"),), ()), ("give", "x"))
        program = program_with([], [("d", both)], ("s", "t"))
        book = Book(program, PUSH, batches=False)
        standings = book.standings()
        one = next(standing for standing in standings if standing[0] == ("off", "off"))
        two = next(standing for standing in standings if standing[0] == ("on", "off"))
        self.assertEqual(parting(book, one, two), (("write", "t", "on"), READ))
        self.assertEqual(parting(book, two, one), (("write", "t", "on"), READ))

    def test_three_deeds_are_needed(self):
        rows = (("read", "u", "x"), ("give", "x"))
        for cell in ("t", "s"):
            rows = (("read", cell, "y"), ("if", "y", "on", rows, ()))
        program = program_with([], [("d", rows)], ("s", "t", "u"))
        low, high = ("off", "off", "off"), ("off", "off", "on")
        writes = (("write", "s", "on"), ("write", "t", "on"))
        batch = ("batch", (("s", "on"), ("t", "on")))
        for batches, due in ((False, writes + (READ,)), (True, (batch, READ))):
            for rule in all_rules():
                book = Book(program, rule, batches=batches)
                standings = {standing[0]: standing for standing in book.standings()[::-1]}
                self.assertEqual(parting(book, standings[low], standings[high]), due)
                self.assertEqual(parting(book, standings[high], standings[low]), due)
                pair = ("on", "off", "off"), ("on", "off", "on")
                self.assertEqual(parting(book, *(standings[words] for words in pair)), writes[1:] + (READ,))

    def test_too_long_in_one_of_them(self):
        book = Book(example(), PUSH, most=1)
        self.assertEqual((len(book), classes(book)), (2, [[0], [1]]))
        self.assertEqual(parting(book, LOW, HIGH), (OFF,))

    def test_too_long_in_both(self):
        # A write of s is too long from each standing; what t holds does not show.
        program = program_with([("e", SAY_D)], sources=("s", "t"))
        book = Book(program, PUSH, most=1, batches=False)
        standings = {standing[0]: standing for standing in book.standings()}
        self.assertEqual(len(standings), 4)
        self.assertIsNone(parting(book, standings[("off", "off")], standings[("off", "on")]))
        self.assertEqual(classes(book), [[0, 1], [2, 3]])

    def test_values_that_are_no_standings_of_the_book(self):
        book = Book(example(), PUSH)
        flag = (LOW[0], (("off", 0, (("s", "off"),)),)) + LOW[2:]
        for value in ODD_VALUES + deep_values() + [flag, list(LOW), LOW[:3], ("off",), [LOW]]:
            for pair in ((value, LOW), (LOW, value), (value, value)):
                self.raises(NoStanding, {}, parting, book, *pair)

    def test_lists_may_be_changed_by_the_caller(self):
        book = Book(SILENT, PUSH)
        first = classes(book)
        first[0].clear()
        first.clear()
        self.assertEqual(classes(book), [[0, 2], [1, 3]])
        self.assertEqual(len(book.standings()), 4)
