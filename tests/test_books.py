"""Points 30 to 34: books by hand, their errors, and lists of standings that are closed."""

import itertools

from tests.cases import ErrorCase, NO_BOUNDS, WRONG_DEEDS, deep_values
from tests.samples import COPY, ODD_VALUES, OFF, ON, WORDS, example, say
from tests.test_spreading import counter
from toldonward.books import Book, is_closed
from toldonward.errors import InvalidBound, InvalidDeed, InvalidKind, LimitExceeded, NoFault, NoStanding, TooManyRuns
from toldonward.judge import KINDS
from toldonward.programs import Program
from toldonward.rules import Rule, all_rules
from toldonward.spreading import begin, step
from toldonward.verdicts import Verdict

PUSH = Rule("push", True, "later")
READ = ("read", "d")
NO_LIMITS = [value for value in NO_BOUNDS if value != 2001] + [10001, 20000]

# Each of the two standings behind the starts has the readers of s as e, then d.
LOW = (("off",), (("off", False, (("s", "off"),)),), (((("s", "off"), ("d", "off")), ()),), (("e", "d"), ("e",)))
HIGH = (("on",), (("on", False, (("s", "on"),)),), (((("s", "on"), ("d", "on")), ()),), (("e", "d"), ("e",)))
# Behind a write d has been asked ahead of the second run of e.
LOW_TURNED = LOW[:3] + ((("d", "e"), ("e",)),)
HIGH_TURNED = HIGH[:3] + ((("d", "e"), ("e",)),)
STANDINGS = [LOW, HIGH, HIGH_TURNED, LOW_TURNED]

# A write of "on" to s is too long for most 1: e is run, and again behind its own write.
WRITER = Program(WORDS, ("s",), (), (
    ("e", (("read", "s", "x"), ("say", "x"), ("put", "y", "off"), ("write", "s", "y"))),))
# With cut, both effects turn s over whatever it holds.
ENDLESS = Program(WORDS, ("s",), (), (
    ("e", (("read", "s", "x"), ("if", "x", "off", (("put", "x", "on"),), (("put", "x", "off"),)), ("write", "s", "x"))),))


def book(program=None, rule=PUSH, **named):
    return Book(program or example(), rule, **named)


class BookTest(ErrorCase):
    def test_the_book_of_the_example(self):
        own = book()
        self.assertEqual(own.standings(), STANDINGS)
        self.assertEqual(len(own), 4)
        self.assertEqual(own.moves(), [OFF, ON, READ])
        self.assertEqual(own.starts(), [(("off",), LOW), (("on",), HIGH)])
        self.assertEqual([own.least_run(standing) for standing in STANDINGS],
                         [(("off",), ()), (("on",), ()), (("off",), (ON,)), (("on",), (OFF,))])

    def test_attributes(self):
        program = example()
        own = book(program, batches=False, most=7, limit=9)
        self.assertIs(own.program, program)
        self.assertIs(own.rule, PUSH)
        self.assertEqual((own.batches, own.most, own.limit), (False, 7, 9))
        other = Book(program=program, rule=PUSH)
        self.assertEqual((other.batches, other.most, other.limit), (True, 200, 2000))
        self.assertRaises(TypeError, Book, program, PUSH, True)

    def test_starts_of_several_sources_in_their_order(self):
        program = Program(("b", "a", "c"), ("t", "s"), (), (("e", say("s")),))
        due = [(("b", "b")), ("b", "a"), ("b", "c"), ("a", "b"), ("a", "a"), ("a", "c"), ("c", "b"), ("c", "a"), ("c", "c")]
        own = book(program)
        self.assertEqual([words for words, _ in own.starts()], due)
        self.assertEqual([standing for _, standing in own.starts()], own.standings())
        self.assertEqual([standing[0] for standing in own.standings()], due)
        for words, standing in own.starts():
            self.assertEqual(standing, begin(program, PUSH, words).after)
            self.assertEqual(own.least_run(standing), (words, ()))

    def test_batches(self):
        program = Program(WORDS, ("s", "t", "u"), (("d", COPY),), ())
        own, less = book(program), book(program, batches=False)
        self.assertEqual(len(own.moves()), 6 + 12 + 1)
        self.assertEqual(less.moves(), own.moves()[:6] + own.moves()[-1:])
        standing = own.standings()[0]
        pair, three = (("t", "on"), ("u", "on")), (("s", "on"), ("t", "on"), ("u", "on"))
        self.assertEqual(own.follow(standing, ("batch", pair))[0][0], ("off", "on", "on"))
        for deed in (("batch", three), ("batch", pair[::-1]), ("batch", pair[:1]), ("read", "s")):
            self.raises(InvalidDeed, {"deed": deed}, own.follow, standing, deed)
        deed = ("batch", pair)
        self.raises(InvalidDeed, {"deed": deed}, less.follow, standing, deed)

    def test_starts_that_are_too_long(self):
        own = book(WRITER, most=1)
        standing = (("off",), (), (((("s", "off"),), ()),), (("e",),))
        self.assertEqual(own.starts(), [(("off",), standing), (("on",), None)])
        self.assertEqual(own.standings(), [standing])
        self.assertEqual(own.follow(standing, OFF), (standing, None, ()))
        self.assertIsNone(own.follow(standing, ON))
        self.assertEqual(own.faults(), [("long", "")])
        self.assertEqual(own.least_fault("long", ""), (("on",), ()))
        self.assertEqual((book(WRITER, most=2).faults(), len(book(WRITER, most=2))), ([], 1))

    def test_a_deed_that_is_too_long(self):
        own = book(most=1)
        self.assertEqual(own.standings(), [LOW, HIGH])
        self.assertIsNone(own.follow(LOW, ON))
        self.assertEqual(own.follow(LOW, OFF), (LOW, None, ()))
        self.assertEqual(own.follow(LOW, READ), (LOW, "off", ()))
        # What such a deed would bring otherwise is not there: no "mixed", no "twice".
        self.assertEqual(own.faults(), [("long", "")])
        self.assertEqual(own.least_fault("long", ""), (("off",), (ON,)))
        self.assertIsNone(own.way(LOW, HIGH))
        self.assertEqual(own.verdict(), Verdict([("long", "")]))

    def test_a_book_without_standings(self):
        for rule in all_rules():
            if rule.inner == "later" or not rule.cut:
                own = book(ENDLESS, rule, limit=1)
                self.assertEqual((len(own), own.standings()), (0, []))
                self.assertEqual(own.starts(), [(("off",), None), (("on",), None)])
                self.assertEqual((own.faults(), own.moves()), ([("long", "")], [OFF, ON]))
                self.assertEqual(own.least_fault("long", ""), (("off",), ()))
                self.raises(NoStanding, {}, own.least_run, begin(example(), rule, ("off",)).after)

    def test_faults_and_their_least_runs(self):
        own = book()
        self.assertEqual(own.faults(), [("mixed", "e"), ("twice", "e"), ("needless", "e")])
        for kind, run in (("mixed", (("off",), (ON,))), ("twice", (("off",), (ON,))), ("needless", (("off",), (ON, OFF)))):
            self.assertEqual(own.least_fault(kind, "e"), run)
            self.assertEqual(own.least_fault(name="e", kind=kind), run)
        for kind, name in (("through", "e"), ("through", "d"), ("mixed", "d"), ("mixed", ""), ("long", ""), ("long", "e"),
                           ("mixed", "q"), ("other", "e"), ("", ""), ("e", "mixed"), ("Mixed", "e")):
            self.raises(NoFault, {"kind": kind, "name": name}, own.least_fault, kind, name)

    def test_the_order_of_the_faults(self):
        both = (("read", "s", "x"), ("read", "z", "y"), ("give", "y"))
        program = Program(WORDS, ("s",), (("z", COPY), ("b", both)), (("f", say("b")), ("a", (
            ("read", "s", "x"), ("read", "b", "y"), ("peek", "z", "w"), ("say", "y")))))
        own = book(program, Rule("push", False, "later"))
        order = ["z", "b", "f", "a", ""]
        self.assertEqual(own.faults(), sorted(own.faults(), key=lambda pair: (KINDS.index(pair[0]), order.index(pair[1]))))
        self.assertEqual([kind for kind, _ in own.faults()][::len(own.faults()) - 1], ["mixed", "needless"])
        self.assertIn(("through", "b"), own.faults())
        names = [name for kind, name in own.faults() if kind == "needless"]
        self.assertEqual(names, ["f", "a"])

    def test_free_kinds_and_verdict(self):
        own = book()
        self.assertEqual([kind for kind in KINDS if own.is_free(kind)], ["through", "missed", "long"])
        for kind in KINDS:
            self.assertIn(own.is_free(kind), (True, False))
        self.assertEqual(own.verdict(), Verdict([("needless", "e"), ("twice", "e"), ("mixed", "e")]))
        self.assertIs(type(own.verdict()), Verdict)
        self.assertTrue(book(example(), Rule("level", True, "later")).is_free("mixed"))
        for kind in ("", "Mixed", "e", "other", "mixed ", "d"):
            self.raises(InvalidKind, {"kind": kind}, own.is_free, kind)

    def test_follow(self):
        own = book()
        self.assertEqual(own.follow(LOW, ON), (HIGH_TURNED, None, (("e", "off"), ("e", "on"))))
        self.assertEqual(own.follow(LOW, OFF), (LOW, None, ()))
        self.assertEqual(own.follow(HIGH_TURNED, READ), (HIGH_TURNED, "on", ()))
        self.assertEqual(own.follow(standing=LOW_TURNED, deed=READ), (LOW_TURNED, "off", ()))

    def test_ways(self):
        own = book()
        self.assertEqual(own.way(LOW, LOW), ())
        self.assertEqual(own.way(LOW, HIGH_TURNED), (ON,))
        self.assertEqual(own.way(LOW, LOW_TURNED), (ON, OFF))
        self.assertEqual(own.way(HIGH, HIGH_TURNED), (OFF, ON))
        self.assertIsNone(own.way(LOW_TURNED, LOW))
        self.assertIsNone(own.way(first=HIGH, second=LOW))

    def test_the_least_way_counts_deeds_then_their_places(self):
        program = Program(WORDS, ("s", "t"), (), (("e", say("s")),))
        own = book(program, batches=True)
        first, last = (begin(program, PUSH, words).after for words in (("off", "off"), ("on", "on")))
        batch = ("batch", (("s", "on"), ("t", "on")))
        self.assertEqual(own.way(first, last), (batch,))
        self.assertEqual(book(program, batches=False).way(first, last), (("write", "s", "on"), ("write", "t", "on")))

    def test_lists_may_be_changed_by_the_caller(self):
        own = book()
        for call in (own.moves, own.starts, own.standings, own.faults):
            first = call()
            self.assertIs(type(first), list)
            due = list(first)
            first.reverse()
            first.append(None)
            self.assertEqual(call(), due)
            first.clear()
            self.assertEqual(call(), due)
        self.assertEqual(own.least_run(LOW_TURNED), (("on",), (OFF,)))
        self.assertEqual(own.follow(LOW, ON)[0], HIGH_TURNED)

    def test_reads_that_lead_to_other_standings(self):
        program = Program(WORDS, ("s",), (("d", COPY), ("c", COPY)), ())
        for rule in all_rules():
            own = book(program, rule)
            first = own.standings()[0]
            self.assertEqual(first[1], (None, None))
            second = own.follow(first, ("read", "c"))[0]
            self.assertEqual(own.least_run(second), (("off",), (("read", "c"),)))
            self.assertEqual(own.way(first, second), (("read", "c"),))


class WrongTest(ErrorCase):
    def test_wrong_bounds_most_first(self):
        for most in NO_BOUNDS + deep_values():
            for limit in (1, 0, None, most):
                self.raises(InvalidBound, {"value": most}, Book, example(), PUSH, most=most, limit=limit)
        for limit in NO_LIMITS + deep_values():
            self.raises(InvalidBound, {"value": limit}, Book, example(), PUSH, limit=limit)
            self.raises(InvalidBound, {"value": limit}, Book, ENDLESS, PUSH, most=1, limit=limit)

    def test_right_bounds(self):
        for most, limit in itertools.product((2, 199, 2000), (4, 5, 2001, 9999, 10000)):
            self.assertEqual(len(book(most=most, limit=limit)), 4)

    def test_limits(self):
        for limit in (1, 2, 3):
            self.raises(LimitExceeded, {"limit": limit}, Book, example(), PUSH, limit=limit)
        self.assertEqual(len(book(limit=4)), 4)
        for rule in all_rules():
            many = len(book(rule=rule))
            self.assertEqual(len(book(rule=rule, limit=many)), many)
            self.raises(LimitExceeded, {"limit": many - 1}, Book, example(), rule, limit=many - 1)

    def test_two_hundred_runs_where_most_is_left_out(self):
        rule = Rule("level", True, "later")
        own = Book(counter(), rule, batches=False)
        long = [words for words, standing in own.starts() if standing is None]
        for words, standing in own.starts():
            if standing is None:
                self.assertRaises(TooManyRuns, begin, counter(), rule, words, most=200)
        self.assertTrue(0 < len(long) < 256, len(long))
        self.assertEqual([words for words, standing in Book(counter(), rule, batches=False, most=201).starts()
                          if standing is None], [words for words in long if self.needs_more(rule, words)])

    def needs_more(self, rule, words):
        try:
            begin(counter(), rule, words, most=201)
        except TooManyRuns:
            return True
        return False

    def test_two_thousand_standings_where_limit_is_left_out(self):
        # Under "push" there is a standing for each order in which some of the cells were worked out.
        rule = Rule("push", True, "later")
        cells = tuple((name, COPY) for name in "abcdg")
        self.assertEqual(len(Book(Program(("a", "b", "c", "d"), ("s",), cells, ()), rule)), 4 * 326)
        more = Program(WORDS, ("s", "t", "u"), cells, ())
        with self.assertRaises(LimitExceeded) as caught:
            Book(more, rule)
        self.assertEqual(caught.exception.limit, 2000)
        self.assertEqual(len(Book(more, rule, batches=False, limit=8 * 326)), 8 * 326)

    def test_values_that_are_no_standings_of_the_book(self):
        own = book()
        flag = (LOW[0], (("off", 0, (("s", "off"),)),)) + LOW[2:]
        self.assertEqual(flag, LOW)
        others = [flag, list(LOW), LOW[:3], LOW + ((),), (["off"],) + LOW[1:], LOW[:3] + (("e", "d"), ("e", "e")),
                  (("off",), (None,), (((("s", "off"),), ()),), (("e",), ())), ("off",), "off",
                  LOW[:1] + ((("off", True, (("s", "off"),)),),) + LOW[2:], [LOW], (LOW,)]
        for value in others + ODD_VALUES + deep_values():
            self.assertIs(value in own, False)
            self.raises(NoStanding, {}, own.least_run, value)
            for deed in (ON, None, ("write",)):
                self.raises(NoStanding, {}, own.follow, value, deed)
            for pair in ((value, LOW), (LOW, value), (value, value)):
                self.raises(NoStanding, {}, own.way, *pair)
        for standing in STANDINGS:
            self.assertIs(standing in own, True)

    def test_deeds_that_are_no_moves(self):
        own = book()
        for deed in WRONG_DEEDS + ODD_VALUES + deep_values() + [("read", "s"), ("batch", (("s", "on"),)), ("read", "e")]:
            if deed not in own.moves():
                self.raises(InvalidDeed, {"deed": deed}, own.follow, LOW, deed)


class ClosedTest(ErrorCase):
    def closed(self, value, rule=PUSH, **named):
        found = is_closed(example(), rule, value, **named)
        self.assertIn(found, (True, False))
        return found

    def test_the_whole_list(self):
        for rule in all_rules():
            standings = book(rule=rule).standings()
            self.assertTrue(self.closed(standings, rule))
            self.assertTrue(self.closed(standings[::-1], rule))
            self.assertTrue(self.closed(standings + standings[:1], rule))
            for place in range(len(standings)):
                self.assertFalse(self.closed(standings[:place] + standings[place + 1:], rule))
            self.assertFalse(self.closed([], rule))

    def test_standings_that_no_run_leads_to(self):
        stale = (("off",), (None,), (((), ()),), ((), ()))
        self.assertFalse(self.closed(STANDINGS + [stale]))
        behind = [stale]
        for standing in behind:
            for deed in book().moves():
                after = step(example(), PUSH, standing, deed).after
                if after not in behind:
                    behind.append(after)
        self.assertTrue(self.closed(STANDINGS + behind))
        self.assertFalse(self.closed(behind))

    def test_values_that_are_no_lists_of_standings(self):
        flag = (LOW[0], (("off", 0, (("s", "off"),)),)) + LOW[2:]
        for value in ODD_VALUES + deep_values() + [tuple(STANDINGS), {LOW: True}, (), "off", [None], LOW]:
            self.assertFalse(self.closed(value))
        for value in ODD_VALUES + deep_values() + [flag, list(LOW), LOW[:3], [LOW], (LOW,)]:
            self.assertFalse(self.closed(STANDINGS + [value]))
            self.assertFalse(self.closed([value] + STANDINGS))
        self.assertFalse(self.closed([flag] + STANDINGS[1:]))

    def test_a_standing_of_another_rule(self):
        stale = (LOW[0], (("off", True, (("s", "off"),)),)) + LOW[2:]
        self.assertFalse(self.closed(STANDINGS + [stale]))

    def test_batches(self):
        program = Program(WORDS, ("s", "t"), (("d", COPY),), (("e", (("read", "d", "x"), ("read", "t", "y"))),))
        rule = Rule("push", False, "later")
        less = Book(program, rule, batches=False).standings()
        self.assertTrue(is_closed(program, rule, less, batches=False))
        more = Book(program, rule).standings()
        self.assertTrue(is_closed(program, rule, more))
        self.assertEqual(is_closed(program, rule, less), len(less) == len(more))

    def test_what_is_too_long_need_not_be_there(self):
        standing = begin(WRITER, PUSH, ("off",)).after
        self.assertTrue(is_closed(WRITER, PUSH, [standing], most=1))
        self.assertTrue(is_closed(WRITER, PUSH, [standing], most=2))
        self.assertTrue(is_closed(ENDLESS, PUSH, []))

    def test_bounds(self):
        for most in NO_BOUNDS + deep_values():
            for value in (STANDINGS, [], None, ()):
                self.raises(InvalidBound, {"value": most}, is_closed, example(), PUSH, value, most=most)
        for most in (2, 200, 2000):
            self.assertTrue(self.closed(STANDINGS, most=most))
        # With most 1 no write of another word can be done, and the standings behind the starts are all.
        self.assertTrue(self.closed(STANDINGS[:2], most=1))
        self.assertFalse(self.closed(STANDINGS[:2], most=2))
        self.assertTrue(is_closed(program=example(), rule=PUSH, value=STANDINGS, batches=True, most=200))
        self.assertRaises(TypeError, is_closed, example(), PUSH, STANDINGS, True)

    def test_the_list_stays_as_it_was(self):
        value = list(STANDINGS)
        self.assertTrue(self.closed(value))
        self.assertEqual(value, STANDINGS)
