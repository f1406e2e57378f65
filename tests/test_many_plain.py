"""Points 40 to 44: the plain machine, a second one, and the facts, over many made-up programs."""

import random
import unittest

from tests.made import made_deed, made_program, made_words
from tests.second import Compared, PlainTold, Told, TooMany, due_deeds
from toldonward.errors import LimitExceeded, TooManyRuns
from toldonward.plain import is_plain, plain_begin, plain_difference, plain_step
from toldonward.rules import Rule, all_rules
from toldonward.spreading import begin, step
from toldonward.truth import true_run, true_words


def told(call, *arguments, most):
    """What the call returns, or None if it is too long."""
    try:
        return call(*arguments, most=most)
    except TooManyRuns as error:
        assert error.most == most
        return None


class MachineTest(unittest.TestCase):
    def test_histories(self):
        dice = random.Random(131)
        counts = {"long": 0, "short": 0, "read": 0}
        for _ in range(700):
            program = made_program(dice, writes=8)
            most = dice.choice((3, 5, 12, 40))
            second = PlainTold(program, most)
            words = made_words(dice, program)
            found, due = told(plain_begin, program, words, most=most), second.begin(words)
            self.assertEqual(found, due and (due[0], due[2]))
            counts["long"] += due is None
            for _ in range(6 if found else 0):
                deed = made_deed(dice, program)
                behind = told(plain_step, program, found[0], deed, most=most)
                self.assertEqual(behind, second.go(found[0], deed))
                counts["short" if behind else "long"] += 1
                counts["read"] += deed[0] == "read"
                found = behind or found
        self.assertTrue(min(counts.values()) > 100, counts)

    def test_just_enough_runs(self):
        dice = random.Random(132)
        checked = 0
        for _ in range(450):
            program = made_program(dice, writes=8)
            words = made_words(dice, program)
            many = self.least_most(program, plain_begin, words)
            if many is None:
                continue
            standing, _ = plain_begin(program, words, most=many)
            deed = made_deed(dice, program)
            checked += self.least_most(program, plain_step, standing, deed) not in (None, 1)
        self.assertTrue(checked > 50, checked)

    def least_most(self, program, call, *arguments):
        """The least bound with which it is done; with all greater ones it does the same, with one less it is too long."""
        due = told(call, program, *arguments, most=40)
        if due is None:
            return None
        many = next(most for most in range(1, 41) if told(call, program, *arguments, most=most) is not None)
        for most in (many, many + 1, 2000):
            self.assertEqual(call(program, *arguments, most=most), due)
        if many > 1:
            with self.assertRaises(TooManyRuns) as caught:
                call(program, *arguments, most=many - 1)
            self.assertEqual(caught.exception.most, many - 1)
        return many

    def test_notes_are_those_of_true_runs_behind_writes_without_peeks(self):
        dice = random.Random(133)
        for _ in range(200):
            program = made_program(dice, peeks=0)
            found = told(plain_begin, program, made_words(dice, program), most=30)
            for _ in range(5 if found else 0):
                words, notes = found[0]
                for (name, _), own in zip(program.effects, notes):
                    self.assertEqual(own, true_run(program, words, name)["notes"])
                found = told(plain_step, program, found[0], made_deed(dice, program), most=30) or found

    def test_reads(self):
        dice = random.Random(134)
        for _ in range(100):
            program = made_program(dice)
            found = told(plain_begin, program, made_words(dice, program), most=30)
            for cell in program.cells() if found else ():
                word = dict(zip(program.cells(), true_words(program, found[0][0])))[cell]
                self.assertEqual(plain_step(program, found[0], ("read", cell), most=1), (found[0], word, ()))


class DifferenceTest(unittest.TestCase):
    def test_least_runs_and_limits(self):
        dice = random.Random(135)
        lengths = []
        for _ in range(600):
            program = made_program(dice, words=3, sources=2, derived=3, effects=2)
            rule = dice.choice(all_rules())
            batches, most = dice.random() < 0.5, dice.choice((6, 9))
            moves = due_deeds(program, batches)
            try:
                due = Compared(program, moves, Told(program, rule, most), PlainTold(program, most), at_most=40)
            except TooMany:
                continue
            run, many = due.least(), due.many_ahead()
            named = {"batches": batches, "most": most}
            self.assertEqual(plain_difference(program, rule, **named), run)
            self.assertIs(is_plain(program, rule, **named), run is None)
            if many:
                self.assertEqual(plain_difference(program, rule, **named, limit=many), run)
            if many > 1:
                for call in (plain_difference, is_plain):
                    with self.assertRaises(LimitExceeded) as caught:
                        call(program, rule, **named, limit=many - 1)
                    self.assertEqual(caught.exception.limit, many - 1)
            lengths.append(len(run[1]) if run else None)
        counts = [lengths.count(length) for length in (None, 0, 1, 2)]
        self.assertTrue(min(counts) > 3, counts)


class FactsTest(unittest.TestCase):
    def test_programs_that_are_plain(self):
        dice = random.Random(136)
        checked = 0
        for index in range(150):
            program = made_program(dice, words=3, sources=2, derived=3, effects=3, writes=index % 2)
            for inner in ("later", "once")[:2 - index % 2]:
                try:
                    self.assertTrue(is_plain(program, Rule("level", True, inner), most=dice.choice((3, 9)), limit=300))
                    checked += 1
                except LimitExceeded:
                    continue
        self.assertTrue(checked > 150, checked)

    def test_what_effects_say_under_pull_without_write_rows(self):
        dice = random.Random(137)
        checked = 0
        for _ in range(120):
            program = made_program(dice, writes=0)
            words = made_words(dice, program)
            for inner in ("once", "later"):
                rule = Rule("pull", True, inner)
                first, (standing, log) = begin(program, rule, words), plain_begin(program, words)
                last = first.after
                self.assertEqual(self.said(program, first.log), self.said(program, log))
                for _ in range(6):
                    deed = made_deed(dice, program)
                    behind = step(program, rule, last, deed)
                    standing, _, log = plain_step(program, standing, deed)
                    self.assertEqual(self.said(program, behind.log), self.said(program, log))
                    last = behind.after
                    checked += len(log) > 1
        self.assertTrue(checked > 300, checked)

    def said(self, program, log):
        return {name: [word for own, word in log if own == name] for name, _ in program.effects}

    def test_reads_change_nothing_that_is_said_under_level_with_later_writes(self):
        dice = random.Random(138)
        checked = 0
        for _ in range(300):
            program = made_program(dice)
            rule = Rule("level", dice.random() < 0.5, "later")
            words = made_words(dice, program)
            history = [made_deed(dice, program) for _ in range(7)]
            with_reads = self.logs(program, rule, words, history)
            without = self.logs(program, rule, words, [deed for deed in history if deed[0] != "read"])
            self.assertEqual(with_reads, without)
            checked += bool(with_reads) and any(deed[0] == "read" for deed in history)
        self.assertTrue(checked > 100, checked)

    def logs(self, program, rule, words, history):
        """What is said in the start and in each deed that is no read; None where that is too long."""
        first = told(begin, program, rule, words, most=30)
        if first is None:
            return None
        found, last = [first.log], first
        for deed in history:
            behind = told(step, program, rule, last.after, deed, most=30)
            if deed[0] != "read":
                found.append(behind and behind.log)
            last = behind or last
        return found
