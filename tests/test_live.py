"""Point 28: live programs, forks, undo, bounds and packs."""

import random

from tests.cases import ErrorCase, NO_BOUNDS, RIGHT_DEEDS, THREE, WRONG_DEEDS, deep_values
from tests.made import made_deed, made_program, made_standing, made_words
from tests.samples import COPY, ODD_VALUES, OFF, ON, WORDS, example
from toldonward.errors import (InvalidBound, InvalidDeed, InvalidStanding, InvalidStart, NothingToUndo, TooManyRuns,
                               UnknownCell, UnknownWord)
from toldonward.live import Live, Pack
from toldonward.programs import Program
from toldonward.rules import Rule, all_rules
from toldonward.spreading import begin, step
from toldonward.standings import deeds

PUSH = Rule("push", True, "later")
PULL = Rule("pull", True, "later")
SAY_BOTH = (("read", "s", "x"), ("read", "t", "y"), ("say", "x"), ("say", "y"))
TWO = Program(WORDS, ("s", "t"), (("d", COPY),), (("e", SAY_BOTH),))
# A change of s brings three runs of effects.
THRICE = Program(WORDS, ("s", "t", "u"), (), (
    ("e", (("read", "s", "x"), ("say", "x"), ("write", "t", "x"))),
    ("f", (("read", "t", "x"), ("say", "x"), ("write", "u", "x"))),
    ("g", (("read", "u", "x"), ("say", "x")))))
NO_NAMES = ["q", "e", "", "S", "on", None, True, 0, ("s",), ["s"], {}]
NO_WORDS = ["mid", "", "ON", "s", None, True, 0, ("on",), ["on"], {}]


def state(live):
    return (live.standing(), live.full_log(), live.last_events(), live.deeds_done(), len(live), live.bound)


class BeginTest(ErrorCase):
    def test_a_start(self):
        for rule in all_rules():
            live = Live(example(), rule, ("on",))
            first = begin(example(), rule, ("on",))
            self.assertEqual(state(live), (first.after, list(first.log), first.events, [], 0, 200))
            self.assertEqual(live.program, example())
            self.assertIs(live.rule, rule)

    def test_a_standing(self):
        standing = begin(example(), PULL, ("on",)).after
        live = Live(example(), PULL, standing=standing, most=7)
        self.assertEqual(state(live), (standing, [], (), [], 0, 7))
        self.assertEqual(live.write("s", "off"), [("e", "off")])
        self.assertEqual(live.full_log(), [("e", "off")])
        self.assertEqual(live.undo(), OFF)
        self.assertEqual(state(live), (standing, [], (), [], 0, 7))
        self.assertRaises(NothingToUndo, live.undo)

    def test_a_standing_that_no_history_reaches(self):
        standing = (("on",), (("off", True, (("s", "off"),)),), (((("d", "off"),), ()),), (("d",), ("e",)))
        live = Live(example(), PULL, standing=standing)
        self.assertEqual((live.standing(), live.read("d")), (standing, "on"))

    def test_wrong_bounds_come_first(self):
        for most in NO_BOUNDS + deep_values():
            for words, standing in ((("off",), None), (None, None), (("off",), ()), (None, 5)):
                self.raises(InvalidBound, {"value": most}, Live, example(), PUSH, words, most=most, standing=standing)

    def test_then_wrong_standings(self):
        standing = begin(example(), PULL, ("on",)).after
        stale = (standing[0], (("on", True, (("s", "on"),)),)) + standing[2:]
        for value in ODD_VALUES + deep_values() + [(), list(standing), standing[:3], stale]:
            if value is not None:
                for words in (None, ("off",), ("up",), []):
                    self.raises(InvalidStanding, {}, Live, example(), PUSH, words, standing=value)

    def test_then_words_beside_a_standing(self):
        standing = begin(example(), PUSH, ("on",)).after
        for words in [("on",), ("off",), ("up",)] + ODD_VALUES + deep_values():
            if words is not None:
                self.raises(InvalidStart, {"words": words}, Live, example(), PUSH, words, standing=standing)

    def test_then_wrong_words(self):
        for words in [("up",), ("on", "on"), ["on"], (None,), ()] + ODD_VALUES + deep_values():
            self.raises(InvalidStart, {"words": words}, Live, example(), PUSH, words)
        self.raises(InvalidStart, {"words": None}, Live, example(), PUSH)

    def test_a_start_that_is_too_long(self):
        rows = (("read", "s", "x"), ("write", "s", "x"))
        program = Program(WORDS, ("s",), (), (("e", rows),))
        with self.assertRaises(TooManyRuns) as caught:
            Live(program, Rule("pull", False, "later"), ("off",), most=9)
        self.assertEqual(caught.exception.most, 9)
        with self.assertRaises(TooManyRuns) as caught:
            Live(program, Rule("pull", False, "later"), ("off",))
        self.assertEqual(caught.exception.most, 200)

    def test_arguments_by_name(self):
        live = Live(program=example(), rule=PUSH, words=("off",), most=3, standing=None)
        self.assertEqual(live.bound, 3)
        self.assertRaises(TypeError, Live, example(), PUSH, ("off",), 200)


class DeedsTest(ErrorCase):
    def test_write(self):
        live = Live(example(), PULL, ("off",))
        self.assertEqual(live.write("s", "on"), [("e", "on")])
        self.assertEqual(live.write("s", "on"), [])
        self.assertEqual(live.deeds_done(), [ON, ON])
        self.assertEqual((live.last_events(), len(live)), ((), 2))
        self.assertEqual(live.full_log(), [("e", "off"), ("e", "on")])

    def test_set_item(self):
        live = Live(example(), PULL, ("off",))
        live["s"] = "on"
        self.assertEqual((live.deeds_done(), live.full_log()), ([ON], [("e", "off"), ("e", "on")]))

    def test_read(self):
        live = Live(example(), PULL, ("off",))
        self.assertEqual([live.read("s"), live.read("d")], ["off", "off"])
        live["s"] = "on"
        self.assertEqual([live.read("s"), live.read("d")], ["on", "on"])
        self.assertEqual(live.deeds_done(), [("read", "s"), ("read", "d"), ON, ("read", "s"), ("read", "d")])

    def test_perform(self):
        for rule in all_rules():
            live = Live(THREE, rule, ("off", "on", "mid"))
            last = begin(THREE, rule, ("off", "on", "mid"))
            for deed in RIGHT_DEEDS:
                last = step(THREE, rule, last.after, deed)
                answer = live.perform(deed)
                self.assertIs(type(answer), list)
                self.assertEqual(answer, list(last.log))
                self.assertEqual((live.standing(), live.last_events()), (last.after, last.events))
            self.assertEqual(live.deeds_done(), RIGHT_DEEDS)

    def test_unknown_sources_then_unknown_words(self):
        live = Live(example(), PULL, ("off",))
        live["s"] = "on"
        before = state(live)
        for source in NO_NAMES + ["d"] + deep_values():
            for word in ["on"] + NO_WORDS:
                self.raises(UnknownCell, {"name": source}, live.write, source, word)
                self.raises(UnknownCell, {"name": source}, live.__setitem__, source, word)
        for word in NO_WORDS + deep_values():
            self.raises(UnknownWord, {"word": word}, live.write, "s", word)
            self.raises(UnknownWord, {"word": word}, live.__setitem__, "s", word)
        for cell in NO_NAMES + deep_values():
            self.raises(UnknownCell, {"name": cell}, live.read, cell)
        self.assertEqual(state(live), before)

    def test_wrong_deeds(self):
        live = Live(THREE, PULL, ("off", "on", "mid"))
        live["s"] = "on"
        before = state(live)
        for deed in WRONG_DEEDS + ODD_VALUES + deep_values():
            self.raises(InvalidDeed, {"deed": deed}, live.perform, deed)
        self.assertEqual(state(live), before)

    def test_deeds_that_are_too_long(self):
        live = Live(THRICE, PULL, ("off", "off", "off"), most=3)
        self.assertEqual(live.write("s", "on"), [("e", "on"), ("f", "on"), ("g", "on")])
        live["s"] = "off"
        live.set_bound(2)
        before = state(live)
        pack = Pack(THRICE)
        pack["s"] = "on"
        for call, argument in ((live.write, ("s", "on")), (live.__setitem__, ("s", "on")), (live.perform, (ON,)),
                               (live.write_pack, (pack,))):
            with self.assertRaises(TooManyRuns) as caught:
                call(*argument)
            self.assertEqual(caught.exception.most, 2)
            self.assertEqual(state(live), before)
        live.set_bound(3)
        self.assertEqual(live.write_pack(pack), [("e", "on"), ("f", "on"), ("g", "on")])

    def test_lists_may_be_changed_by_the_caller(self):
        live = Live(example(), PULL, ("off",))
        answers = [live.write("s", "on"), live.perform(OFF), live.full_log(), live.deeds_done()]
        before = state(live)
        for answer in answers:
            answer.append("more")
        live.full_log().clear()
        live.deeds_done().clear()
        self.assertEqual(state(live), before)


class UndoTest(ErrorCase):
    def test_back_to_the_start(self):
        live = Live(example(), PUSH, ("off",))
        states = [state(live)]
        for deed in (ON, OFF, ("read", "d"), ON):
            live.perform(deed)
            states.append(state(live))
        for deed in (ON, ("read", "d"), OFF, ON):
            self.assertEqual(state(live), states.pop())
            self.assertEqual(live.undo(), deed)
        self.assertEqual(state(live), states.pop())
        for _ in range(2):
            self.raises(NothingToUndo, {}, live.undo)
        self.assertEqual(state(live), state(Live(example(), PUSH, ("off",))))

    def test_the_same_deed_again(self):
        live = Live(example(), PUSH, ("off",))
        first = live.perform(ON)
        before = state(live)
        self.assertEqual(live.undo(), ON)
        self.assertEqual(live.perform(ON), first)
        self.assertEqual(state(live), before)

    def test_undo_brings_back_the_order_of_the_readers(self):
        live = Live(example(), PUSH, ("off",))
        self.assertEqual(live.standing()[3][0], ("e", "d"))
        live["s"] = "on"
        self.assertEqual(live.standing()[3][0], ("d", "e"))
        live.undo()
        self.assertEqual(live.standing()[3][0], ("e", "d"))

    def test_bounds(self):
        live = Live(example(), PUSH, ("off",), most=5)
        live["s"] = "on"
        before = state(live)[:-1]
        self.assertIsNone(live.set_bound(2))
        self.assertEqual((state(live)[:-1], live.bound), (before, 2))
        live.undo()
        self.assertEqual(live.bound, 2)
        live.set_bound(1)
        with self.assertRaises(TooManyRuns):
            live["s"] = "on"
        for value in (1, 2000, 200):
            live.set_bound(value)
            self.assertEqual(live.bound, value)
        for value in NO_BOUNDS + deep_values():
            self.raises(InvalidBound, {"value": value}, live.set_bound, value)
            self.assertEqual(live.bound, 200)

    def test_the_bound_is_only_read(self):
        with self.assertRaises(AttributeError):
            Live(example(), PUSH, ("off",)).bound = 5


class ForkTest(ErrorCase):
    def test_the_same_history(self):
        live = Live(example(), PUSH, ("off",), most=9)
        live["s"] = "on"
        live.set_bound(8)
        other = live.fork()
        self.assertIs(type(other), Live)
        self.assertEqual(state(other), state(live))
        self.assertEqual((other.program, other.rule), (live.program, live.rule))

    def test_what_one_of_them_does_later(self):
        for undo_first in (True, False):
            live = Live(example(), PUSH, ("off",))
            live["s"] = "on"
            other = live.fork()
            before = state(live)
            for one, two in ((live, other), (other, live)):
                kept = state(two)
                if undo_first:
                    one.undo()
                one["s"] = "off"
                one.read("d")
                one.set_bound(50)
                self.assertEqual(state(two), kept)
            self.assertEqual(state(live), state(other))
            self.assertNotEqual(state(live), before)

    def test_a_fork_can_be_undone_to_the_start(self):
        live = Live(example(), PUSH, ("off",))
        live["s"] = "on"
        other = live.fork()
        third = other.fork()
        self.assertEqual(other.undo(), ON)
        self.assertEqual(state(other), state(Live(example(), PUSH, ("off",))))
        self.assertRaises(NothingToUndo, other.undo)
        self.assertEqual((len(live), len(third)), (1, 1))

    def test_forks_of_a_standing(self):
        standing = begin(example(), PULL, ("on",)).after
        live = Live(example(), PULL, standing=standing)
        other = live.fork()
        self.assertEqual(state(other), state(live))
        self.assertEqual(other.last_events(), ())
        other["s"] = "off"
        self.assertEqual((len(live), live.standing()), (0, standing))


class PackTest(ErrorCase):
    def test_writes_in_the_order_in_which_sources_were_first_set(self):
        pack = Pack(THREE)
        self.assertEqual((len(pack), pack.writes()), (0, ()))
        for source, word in (("t", "on"), ("s", "mid"), ("t", "off"), ("u", "on"), ("s", "on")):
            pack[source] = word
        self.assertEqual(len(pack), 3)
        self.assertEqual(pack.writes(), (("t", "off"), ("s", "on"), ("u", "on")))
        self.assertIs(type(pack.writes()), tuple)

    def test_in(self):
        pack = Pack(THREE)
        others = ["t", "d", "mid", ("s", "on"), ("u",)] + NO_NAMES + ODD_VALUES + deep_values()
        for value in ["s", "u"] + others:
            self.assertIs(value in pack, False)
        pack["s"] = "on"
        pack["u"] = "off"
        for value in others:
            self.assertIs(value in pack, False)
        self.assertIs("s" in pack, True)
        self.assertIs("u" in pack, True)

    def test_unknown_sources_and_words(self):
        pack = Pack(THREE)
        pack["t"] = "on"
        for source in NO_NAMES + ["d"] + deep_values():
            for word in ["on"] + NO_WORDS:
                self.raises(UnknownCell, {"name": source}, pack.__setitem__, source, word)
        for word in ["top", "", "ON", "s", None, True, 0, ("on",), ["on"], {}] + deep_values():
            for source in ("s", "t"):
                self.raises(UnknownWord, {"word": word}, pack.__setitem__, source, word)
        self.assertEqual((len(pack), pack.writes()), (1, (("t", "on"),)))

    def test_an_empty_pack(self):
        live = Live(TWO, PUSH, ("off", "off"))
        before = state(live)
        with self.assertRaises(InvalidDeed) as caught:
            live.write_pack(Pack(TWO))
        self.assertEqual(caught.exception.deed, ("batch", ()))
        self.assertEqual(state(live), before)

    def test_one_pack_several_times_and_by_several_live_objects(self):
        pack = Pack(TWO)
        pack["t"] = "on"
        pack["s"] = "on"
        batch = ("batch", (("t", "on"), ("s", "on")))
        other_program = Program(WORDS, ("s", "t"), (), (("f", (("read", "t", "x"), ("say", "x"))),))
        first, second = Live(TWO, PULL, ("off", "off")), Live(other_program, PUSH, ("on", "off"))
        self.assertEqual(first.write_pack(pack), [("e", "on"), ("e", "on")])
        self.assertEqual(first.write_pack(pack), [])
        self.assertEqual(second.write_pack(pack), [("f", "on")])
        self.assertEqual(pack.writes(), batch[1])
        self.assertEqual((first.deeds_done(), second.deeds_done()), ([batch, batch], [batch]))
        # A later change of the pack is no change of a history.
        pack["s"] = "off"
        self.assertEqual(first.deeds_done(), [batch, batch])
        self.assertEqual(first.write_pack(pack), [("e", "off"), ("e", "on")])

    def test_a_program_without_one_of_the_sources(self):
        pack = Pack(TWO)
        pack["s"] = "on"
        live = Live(example(), PULL, ("off",))
        self.assertEqual(live.write_pack(pack), [("e", "on")])
        pack["t"] = "on"
        before = state(live)
        with self.assertRaises(InvalidDeed) as caught:
            live.write_pack(pack)
        self.assertEqual(caught.exception.deed, ("batch", (("s", "on"), ("t", "on"))))
        self.assertEqual(state(live), before)
        self.assertEqual(len(pack), 2)

    def test_a_pack_of_one_write(self):
        pack = Pack(example())
        pack["s"] = "on"
        live = Live(example(), PUSH, ("off",))
        self.assertEqual(live.write_pack(pack), [("e", "off"), ("e", "on")])
        self.assertEqual(live.deeds_done(), [("batch", (("s", "on"),))])


class ManyHistoriesTest(ErrorCase):
    def test_a_live_program_is_the_chain_of_its_steps(self):
        dice = random.Random(81)
        for _ in range(60):
            program = made_program(dice)
            for rule in all_rules():
                chain, live = [], None
                while live is None:
                    words = made_words(dice, program)
                    if dice.random() < 0.3:
                        standing = made_standing(dice, program, rule)
                        live = Live(program, rule, standing=standing, most=20)
                        chain = [(standing, (), [])]
                        continue
                    try:
                        live = Live(program, rule, words, most=20)
                        first = begin(program, rule, words, most=20)
                        chain = [(first.after, first.events, list(first.log))]
                    except TooManyRuns:
                        continue
                self.follow(dice, program, rule, live, chain)

    def follow(self, dice, program, rule, live, chain):
        done = []
        for _ in range(8):
            if done and dice.random() < 0.3:
                self.assertEqual(live.undo(), done.pop())
                chain.pop()
            else:
                deed = made_deed(dice, program)
                try:
                    last = step(program, rule, chain[-1][0], deed, most=20)
                    self.assertEqual(live.perform(deed), list(last.log))
                    chain.append((last.after, last.events, chain[-1][2] + list(last.log)))
                    done.append(deed)
                except TooManyRuns:
                    self.assertRaises(TooManyRuns, live.perform, deed)
            standing, events, log = chain[-1]
            self.assertEqual(state(live), (standing, log, events, done, len(done), 20))
            if dice.random() < 0.2:
                live = live.fork()

    def test_all_listed_deeds(self):
        live = Live(TWO, PULL, ("off", "off"))
        for deed in deeds(TWO):
            live.perform(deed)
        self.assertEqual(live.deeds_done(), deeds(TWO))
