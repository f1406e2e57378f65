"""Points 40 to 44: the plain machine by hand, and its errors."""

import itertools

from tests.cases import ErrorCase, NO_BOUNDS, RIGHT_DEEDS, THREE, WRONG_DEEDS, deep_values
from tests.samples import COPY, ODD_VALUES, OFF, ON, SAY_D, WORDS, example, give, say
from tests.test_books import ENDLESS
from tests.test_spreading import counter
from toldonward.errors import InvalidBound, InvalidDeed, InvalidStart, LimitExceeded, TooManyRuns
from toldonward.plain import is_plain, plain_begin, plain_difference, plain_step
from toldonward.programs import Program
from toldonward.rules import Rule, all_rules

PUSH = Rule("push", True, "later")
LEVEL = Rule("level", True, "later")
NO_LIMITS = [value for value in NO_BOUNDS if value != 2001] + [20001]
WRONG_STARTS = ODD_VALUES + [(), ("up",), ("on", "on"), ["on"], (None,), (True,), (["on"],)]


def program_with(*effects, derived=(), sources=("s", "t")):
    return Program(WORDS, sources, tuple(derived), effects)


# e says s and writes it to t; f says t.
CHAIN = program_with(("e", (("read", "s", "x"), ("say", "x"), ("write", "t", "x"))), ("f", say("t")))


class BeginTest(ErrorCase):
    def test_the_example(self):
        self.assertEqual(plain_begin(example(), ("off",)),
                         ((("off",), ((("s", "off"), ("d", "off")),)), (("e", "off"),)))

    def test_effects_in_order_and_writes_behind_all_runs(self):
        standing, log = plain_begin(CHAIN, ("on", "off"))
        self.assertEqual(log, (("e", "on"), ("f", "off"), ("f", "on")))
        self.assertEqual(standing, (("on", "on"), ((("s", "on"),), (("t", "on"),))))
        # A write of the word that is held already does nothing.
        self.assertEqual(plain_begin(CHAIN, ("on", "on"))[1], (("e", "on"), ("f", "on")))

    def test_writes_wait_in_their_order(self):
        turn = (("put", "y", "on"), ("write", "s", "y"), ("put", "y", "off"), ("write", "s", "y"))
        program = program_with(("e", turn), ("f", say("s")))
        self.assertEqual(plain_begin(program, ("off", "off")),
                         ((("off", "off"), ((), (("s", "off"),))), (("f", "off"), ("f", "on"), ("f", "off"))))
        self.assertEqual(plain_begin(program, ("on", "off"))[1], (("f", "on"), ("f", "off")))

    def test_writes_that_writes_bring_wait_behind_the_others(self):
        first = (("put", "y", "on"), ("write", "s", "y"), ("write", "t", "y"))
        second = (("read", "s", "x"), ("say", "x"), ("write", "u", "x"))
        third = (("read", "t", "x"), ("say", "x"))
        fourth = (("read", "u", "x"), ("say", "x"))
        program = program_with(("e", first), ("f", second), ("g", third), ("h", fourth), sources=("s", "t", "u"))
        self.assertEqual(plain_begin(program, ("off", "off", "off"))[1],
                         (("f", "off"), ("g", "off"), ("h", "off"), ("f", "on"), ("g", "on"), ("h", "on")))

    def test_a_run_changes_no_source_while_it_is_under_way(self):
        rows = (("put", "y", "on"), ("write", "s", "y"), ("read", "s", "x"), ("say", "x"))
        program = program_with(("e", rows), sources=("s",))
        self.assertEqual(plain_begin(program, ("off",)), ((("on",), ((("s", "on"),),)), (("e", "off"), ("e", "on"))))

    def test_peeks_are_not_kept(self):
        rows = (("peek", "s", "x"), ("read", "t", "y"), ("say", "x"))
        program = program_with(("e", rows))
        standing, log = plain_begin(program, ("on", "off"))
        self.assertEqual((standing, log), ((("on", "off"), ((("t", "off"),),)), (("e", "on"),)))
        self.assertEqual(plain_step(program, standing, OFF), ((("off", "off"), ((("t", "off"),),)), None, ()))
        standing = plain_step(program, standing, OFF)[0]
        self.assertEqual(plain_step(program, standing, ("write", "t", "on"))[2], (("e", "off"),))

    def test_derived_cells_that_read_derived_cells(self):
        both = (("read", "d", "x"), ("read", "t", "y"), ("if", "x", "on", (("give", "y"),), ()), ("give", "x"))
        program = program_with(("e", say("c")), ("f", say("b")), derived=(("d", COPY), ("c", both), ("b", give("c"))))
        standing, log = plain_begin(program, ("on", "on"))
        self.assertEqual((standing, log), ((("on", "on"), ((("c", "on"),), (("b", "on"),))), (("e", "on"), ("f", "on"))))
        standing, told, log = plain_step(program, standing, ("write", "t", "off"))
        self.assertEqual((told, log), (None, (("e", "off"), ("f", "off"))))
        # The cell stays the same, so its readers are not run.
        self.assertEqual(plain_step(program, standing, OFF), ((("off", "off"), standing[1]), None, ()))
        self.assertEqual(plain_step(program, standing, ("read", "b")), (standing, "off", ()))

    def test_programs_without_effects(self):
        self.assertEqual(plain_begin(program_with(), ("off", "on")), ((("off", "on"), ()), ()))

    def test_bounds_then_starts(self):
        for most, words in itertools.product(NO_BOUNDS + deep_values(), (("off",), ("up",), None)):
            self.raises(InvalidBound, {"value": most}, plain_begin, example(), words, most=most)
        for words in WRONG_STARTS + deep_values():
            self.raises(InvalidStart, {"words": words}, plain_begin, example(), words)
            self.raises(InvalidStart, {"words": words}, plain_begin, ENDLESS, words, most=1)
        self.assertRaises(TypeError, plain_begin, example(), ("off",), 200)
        self.assertEqual(plain_begin(program=example(), words=("off",), most=1)[1], (("e", "off"),))

    def test_just_enough_runs(self):
        self.assertEqual(len(plain_begin(CHAIN, ("on", "off"), most=3)[1]), 3)
        for most in (1, 2):
            self.raises(TooManyRuns, {"most": most}, plain_begin, CHAIN, ("on", "off"), most=most)
        self.assertEqual(len(plain_begin(CHAIN, ("on", "on"), most=2)[1]), 2)
        for most in (1, 5, 2000):
            self.raises(TooManyRuns, {"most": most}, plain_begin, ENDLESS, ("off",), most=most)
        with self.assertRaises(TooManyRuns) as caught:
            plain_begin(ENDLESS, ("off",))
        self.assertEqual(caught.exception.most, 200)

    def test_two_hundred_where_it_is_left_out(self):
        found = set()
        program = counter()
        for words in itertools.product(program.words, program.words, program.words, ("on", "mid")):
            for most in (199, 200, 201):
                try:
                    plain_begin(program, words, most=most)
                except TooManyRuns:
                    continue
                found.add(most)
                break
            try:
                plain_begin(program, words)
            except TooManyRuns as error:
                self.assertEqual(error.most, 200)
                self.assertRaises(TooManyRuns, plain_begin, program, words, most=200)
        self.assertIn(199, found)


class StepTest(ErrorCase):
    def test_single_writes(self):
        standing, _ = plain_begin(CHAIN, ("off", "off"))
        behind = plain_step(CHAIN, standing, ON)
        self.assertEqual(behind, ((("on", "on"), ((("s", "on"),), (("t", "on"),))), None, (("e", "on"), ("f", "on"))))
        self.assertEqual(plain_step(CHAIN, standing, OFF), (standing, None, ()))
        # f alone reads t.
        self.assertEqual(plain_step(CHAIN, standing, ("write", "t", "on")),
                         ((("off", "on"), ((("s", "off"),), (("t", "on"),))), None, (("f", "on"),)))

    def test_batches(self):
        standing, _ = plain_begin(CHAIN, ("off", "off"))
        batch = ("batch", (("t", "on"), ("s", "on")))
        self.assertEqual(plain_step(CHAIN, standing, batch)[2], (("e", "on"), ("f", "on")))
        self.assertEqual(plain_step(CHAIN, standing, ("batch", (("s", "off"), ("t", "off")))), (standing, None, ()))
        self.assertEqual(plain_step(CHAIN, standing, ("batch", (("s", "on"), ("t", "off"))))[2], (("e", "on"), ("f", "on")))
        self.assertEqual(plain_step(CHAIN, standing, ("batch", (("s", "on"),))), plain_step(CHAIN, standing, ON))
        # The effects are looked at once, behind all sources of the batch.
        both = program_with(("e", (("read", "s", "x"), ("read", "t", "y"), ("say", "x"), ("say", "y"))))
        first, _ = plain_begin(both, ("off", "off"))
        self.assertEqual(plain_step(both, first, batch)[2], (("e", "on"), ("e", "on")))

    def test_reads(self):
        standing, _ = plain_begin(example(), ("on",))
        for cell in ("s", "d"):
            self.assertEqual(plain_step(example(), standing, ("read", cell), most=1), (standing, "on", ()))

    def test_notes_that_are_true_again(self):
        # Each waiting write is done as a write of its own: f is run for the first one, too.
        turn = (("read", "s", "x"), ("if", "x", "on", (("put", "y", "on"), ("write", "t", "y"), ("put", "y", "off"),
                                                         ("write", "t", "y")), ()))
        program = program_with(("e", turn), ("f", say("t")))
        standing, _ = plain_begin(program, ("off", "off"))
        self.assertEqual(plain_step(program, standing, ON)[2], (("f", "on"), ("f", "off")))

    def test_all_deeds(self):
        standing, _ = plain_begin(THREE, ("off", "on", "mid"))
        for deed in RIGHT_DEEDS:
            behind, told, log = plain_step(THREE, standing, deed)
            self.assertEqual(told is None, deed[0] != "read")
            self.assertEqual((len(behind[0]), log), (3, ()))

    def test_bounds_then_deeds(self):
        standing, _ = plain_begin(THREE, ("off", "on", "mid"))
        for most, deed in itertools.product(NO_BOUNDS + deep_values(), (RIGHT_DEEDS[0], None, ())):
            self.raises(InvalidBound, {"value": most}, plain_step, THREE, standing, deed, most=most)
        for deed in WRONG_DEEDS + ODD_VALUES + deep_values():
            self.raises(InvalidDeed, {"deed": deed}, plain_step, THREE, standing, deed, most=1)
        self.assertRaises(TypeError, plain_step, THREE, standing, RIGHT_DEEDS[0], 200)
        self.assertEqual(plain_step(program=THREE, standing=standing, deed=("read", "s"), most=2000)[1], "off")

    def test_just_enough_runs(self):
        standing, _ = plain_begin(CHAIN, ("off", "off"))
        due = plain_step(CHAIN, standing, ON)
        self.assertEqual(plain_step(CHAIN, standing, ON, most=2), due)
        self.raises(TooManyRuns, {"most": 1}, plain_step, CHAIN, standing, ON, most=1)
        self.assertEqual(plain_step(CHAIN, standing, ("write", "t", "on"), most=1)[2], (("f", "on"),))

    def test_a_call_that_raises_changes_nothing(self):
        standing, _ = plain_begin(CHAIN, ("off", "off"))
        told = repr(standing)
        self.assertRaises(TooManyRuns, plain_step, CHAIN, standing, ON, most=1)
        self.assertEqual(repr(standing), told)


class DifferenceTest(ErrorCase):
    def test_the_example(self):
        self.assertTrue(is_plain(example(), Rule("pull", True, "later")))
        self.assertFalse(is_plain(example(), PUSH))
        self.assertEqual(plain_difference(example(), PUSH), (("off",), (ON,)))
        self.assertIs(is_plain(example(), LEVEL), True)
        self.assertIs(is_plain(example(), PUSH), False)
        self.assertIsNone(plain_difference(example(), LEVEL))

    def test_without_cut_a_write_of_the_same_word_differs(self):
        for rule in all_rules():
            if rule.mode != "push":
                due = None if rule.cut else (("off",), (OFF,))
                self.assertEqual(plain_difference(example(), rule), due)

    def test_batches(self):
        both = program_with(("e", (("read", "s", "x"), ("read", "t", "y"), ("say", "y"))))
        batch = ("batch", (("s", "on"), ("t", "on")))
        self.assertEqual(plain_difference(both, PUSH), (("off", "off"), (batch,)))
        self.assertIsNone(plain_difference(both, PUSH, batches=False))
        self.assertTrue(is_plain(both, PUSH, batches=False))

    def test_bounds(self):
        for call in (plain_difference, is_plain):
            for most in NO_BOUNDS + deep_values():
                for limit in (1, 0, None):
                    self.raises(InvalidBound, {"value": most}, call, example(), PUSH, most=most, limit=limit)
            for limit in NO_LIMITS + deep_values():
                self.raises(InvalidBound, {"value": limit}, call, example(), PUSH, limit=limit)
            for limit in (2, 20000):
                call(example(), PUSH, limit=limit)
            self.raises(LimitExceeded, {"limit": 1}, call, example(), PUSH, limit=1)
            self.raises(LimitExceeded, {"limit": 1}, call, example(), LEVEL, limit=1)
            self.assertRaises(TypeError, call, example(), PUSH, True)

    def test_limits(self):
        # The pairs of standings of the example under "level" with cut are those of its two words.
        self.assertIsNone(plain_difference(example(), LEVEL, limit=4))
        many = next(limit for limit in range(1, 9) if self.is_done(limit))
        self.assertTrue(2 <= many <= 4)
        for limit in range(1, many):
            self.raises(LimitExceeded, {"limit": limit}, plain_difference, example(), LEVEL, limit=limit)

    def is_done(self, limit):
        try:
            return is_plain(example(), LEVEL, limit=limit)
        except LimitExceeded:
            return False

    def test_limit_where_it_is_left_out(self):
        cells = tuple((name, COPY) for name in "abcd")
        words = ("a", "b", "c", "d")
        self.assertTrue(is_plain(Program(words, ("s", "t", "u"), cells, ()), PUSH, batches=False))
        for call in (plain_difference, is_plain):
            with self.assertRaises(LimitExceeded) as caught:
                call(Program(words[:3], ("s", "t", "u", "v"), cells, ()), PUSH, batches=False)
            self.assertEqual(caught.exception.limit, 5000)

    def test_too_long(self):
        # The start is too long for both, so nothing shows.
        self.assertIsNone(plain_difference(ENDLESS, LEVEL))
        # With most 1 a write is too long under "push", but not for the plain machine.
        self.assertEqual(plain_difference(example(), PUSH, most=1), (("off",), (ON,)))
        once = Rule("level", True, "once")
        turn = program_with(("e", (("read", "s", "x"), ("put", "y", "off"), ("write", "s", "y"), ("say", "y"))), sources=("s",))
        self.assertIsNone(plain_difference(turn, once, most=1))
        self.assertIsNone(plain_difference(turn, LEVEL, most=1))

    def test_derived_cells_are_read(self):
        # What is told is true under all rules, so a program without effects is plain under each of them.
        program = program_with(derived=(("d", COPY), ("c", give("d"))))
        for rule in all_rules():
            self.assertTrue(is_plain(program, rule))

    def test_peeks(self):
        program = program_with(("e", (("peek", "t", "x"), ("read", "s", "y"), ("say", "x"))), ("f", SAY_D), derived=(("d", COPY),))
        self.assertTrue(is_plain(program, LEVEL))
        self.assertTrue(is_plain(program, Rule("level", True, "once")))
