"""Points 12 to 27 and 56 to 58 over many made-up programs and histories: a second machine, and the facts."""

import random
import unittest

from tests.made import made_deed, made_program, made_standing, made_words
from tests.model import due_begin, due_step
from tests.test_spreading import counter, endless
from toldonward.errors import TooManyRuns
from toldonward.judge import faults
from toldonward.programs import Program
from toldonward.reasons import is_reason, telling
from toldonward.rules import Rule, all_rules
from toldonward.spreading import begin, step
from toldonward.standings import is_standing
from toldonward.truth import true_run, true_words
from toldonward.why import kept_reach, reached, steering, wasted


def parts(call, *arguments, **named):
    """The parts of the Step as a dict, or None if it is too long."""
    try:
        return vars(call(*arguments, **named))
    except TooManyRuns:
        return None


class ModelTest(unittest.TestCase):
    def same(self, found, due):
        self.assertEqual(found, due)
        self.counts[found is None] += 1
        return found

    def setUp(self):
        self.counts = {True: 0, False: 0}

    def test_histories_under_all_rules(self):
        dice = random.Random(61)
        for _ in range(150):
            program = made_program(dice)
            for rule in all_rules():
                words = made_words(dice, program)
                last = self.same(parts(begin, program, rule, words, most=40), due_begin(program, rule, words, 40))
                for _ in range(5):
                    standing = last["after"] if last else made_standing(dice, program, rule)
                    self.assertTrue(is_standing(program, rule, standing))
                    deed = made_deed(dice, program)
                    found = self.same(parts(step, program, rule, standing, deed, most=40),
                                      due_step(program, rule, standing, deed, 40))
                    last = found or last
        self.assertTrue(min(self.counts.values()) > 200, self.counts)

    def test_standings_that_no_history_reaches(self):
        dice = random.Random(62)
        for _ in range(150):
            program = made_program(dice)
            for rule in all_rules():
                for _ in range(3):
                    standing = made_standing(dice, program, rule)
                    deed = made_deed(dice, program)
                    found = self.same(parts(step, program, rule, standing, deed, most=25),
                                      due_step(program, rule, standing, deed, 25))
                    if found:
                        self.assertTrue(is_standing(program, rule, found["after"]))
        self.assertTrue(min(self.counts.values()) > 100, self.counts)

    def test_large_programs(self):
        dice = random.Random(63)
        for _ in range(25):
            program = made_program(dice, words=4, sources=4, derived=6, effects=4)
            for rule in all_rules():
                words = made_words(dice, program)
                last = self.same(parts(begin, program, rule, words, most=100), due_begin(program, rule, words, 100))
                for _ in range(3):
                    standing = last["after"] if last else made_standing(dice, program, rule)
                    deed = made_deed(dice, program)
                    last = self.same(parts(step, program, rule, standing, deed, most=100),
                                     due_step(program, rule, standing, deed, 100)) or last

    def test_programs_that_run_long(self):
        for program in (counter(), endless()):
            for rule in all_rules():
                words = ("on", "off", "on", "on")[:len(program.sources)]
                self.same(parts(begin, program, rule, words, most=300), due_begin(program, rule, words, 300))


class FactsTest(unittest.TestCase):
    """What holds behind the start and behind each deed of a history."""

    def histories(self, seed, times, rules, **sizes):
        """Triples of a program, a rule and the Steps of a history."""
        dice = random.Random(seed)
        for _ in range(times):
            program = made_program(dice, **sizes)
            for rule in rules:
                steps = []
                for _ in range(6):
                    try:
                        if steps:
                            last = step(program, rule, steps[-1].after, made_deed(dice, program), most=50)
                        else:
                            last = begin(program, rule, made_words(dice, program), most=50)
                    except TooManyRuns:
                        continue
                    steps.append(last)
                yield program, rule, steps

    def rules(self, modes=("push", "pull", "level"), cuts=(False, True), inners=("once", "later")):
        return [rule for rule in all_rules() if rule.mode in modes and rule.cut in cuts and rule.inner in inners]

    def test_reads_and_cells_at_rest(self):
        reads = kept = 0
        for program, _, steps in self.histories(71, 80, all_rules()):
            for each in steps:
                true = dict(zip(program.cells(), true_words(program, each.after[0])))
                if each.deed and each.deed[0] == "read":
                    self.assertEqual(each.told, true[each.deed[1]])
                    reads += 1
                for name, entry in zip(program.derived_names(), each.after[1]):
                    if entry and not entry[1]:
                        self.assertEqual(entry[0], true[name])
                        kept += 1
        self.assertTrue(reads > 300 and kept > 2000, (reads, kept))

    def test_faults_that_never_occur(self):
        found = {}
        for peeks in (0, 1):
            for program, rule, steps in self.histories(72, 80, all_rules(), peeks=peeks):
                for each in steps:
                    for kind, _ in faults(program, each.before, each.events):
                        found.setdefault((peeks, rule.mode, rule.cut, rule.inner), set()).add(kind)
        for (peeks, mode, cut, inner), kinds in found.items():
            if not peeks:
                self.assertNotIn("missed", kinds)
            if mode != "push":
                self.assertFalse(kinds & {"mixed", "through", "twice"})
                self.assertFalse(cut and inner == "later" and "needless" in kinds)
            else:
                self.assertLessEqual({"mixed", "through", "twice", "needless"}, kinds)
        self.assertIn("needless", found[(0, "level", True, "once")])
        self.assertIn("needless", found[(0, "pull", False, "later")])
        self.assertIn("missed", found[(1, "level", True, "later")])

    def test_notes_and_reach_with_later_writes(self):
        checked = 0
        for program, rule, steps in self.histories(73, 80, self.rules(inners=("later",)), peeks=0):
            for each in steps:
                words = each.after[0]
                for name, (notes, _) in zip(program.effect_names(), each.after[2]):
                    self.assertEqual(notes, true_run(program, words, name)["notes"])
                    self.assertEqual(kept_reach(program, rule, each.after, name), reached(program, words, name))
                    checked += 1
                for name, entry in zip(program.derived_names(), each.after[1]):
                    if entry and not entry[1]:
                        self.assertEqual(kept_reach(program, rule, each.after, name), reached(program, words, name))
        self.assertTrue(checked > 2000, checked)

    def test_wasted_runs(self):
        found = {"changed": 0, "reached": 0, "needed": 0, "wasted": 0}
        for program, rule, steps in self.histories(74, 80, all_rules(), peeks=0, writes=0):
            for each in steps[1:]:
                ran = [event[1] for event in each.events if event[0] == "run"]
                ahead, behind = each.before[0], each.after[0]
                apart = {source for source, one, two in zip(program.sources, ahead, behind) if one != two}
                lost = wasted(program, each.before, each.events)
                found["wasted"] += len(lost)
                for name in program.effect_names():
                    self.check_waste(program, name, each, ran, apart, lost)
                    if telling(program, ahead, name) != telling(program, behind, name):
                        self.assertIn(name, ran)
                        found["changed"] += 1
                    if rule.mode != "push" and rule.cut and name in ran:
                        inside = kept_reach(program, rule, each.before, name)
                        self.assertTrue(set(inside) & apart)
                        found["reached"] += 1
                        others = [tuple(part for part in program.sources if part != one) for one in inside]
                        if not any(is_reason(program, ahead, name, sources) for sources in others):
                            self.assertNotIn(name, lost)
                            found["needed"] += 1
        self.assertTrue(min(found.values()) > 100, found)

    def check_waste(self, program, name, each, ran, apart, lost):
        same = tuple(source for source in program.sources if source not in apart)
        self.assertEqual(name in lost, name in ran and is_reason(program, each.before[0], name, same))

    def test_steering_batches(self):
        rule = Rule("level", True, "later")
        dice = random.Random(75)
        checked = 0
        for program, _, steps in self.histories(76, 150, [rule], peeks=0, writes=0):
            standing = steps[-1].after
            for name in program.effect_names():
                due = telling(program, made_words(dice, program), name)
                for sources, words in steering(program, standing[0], name, due):
                    if sources:
                        held = dict(zip(program.sources, words))
                        batch = ("batch", tuple((source, held[source]) for source in sources))
                        last = step(program, rule, standing, batch)
                        self.assertEqual([event for event in last.events if event == ("run", name)], [("run", name)])
                        self.assertEqual(tuple(word for own, word in last.log if own == name), due[1])
                        checked += 1
        self.assertTrue(checked > 30, checked)


class ChangedArgumentsTest(unittest.TestCase):
    def test_nothing_that_is_passed_is_modified(self):
        dice = random.Random(77)
        for _ in range(30):
            program = made_program(dice)
            copy = Program(program.words, program.sources, program.derived, program.effects)
            for rule in all_rules():
                standing, deed = made_standing(dice, program, rule), made_deed(dice, program)
                told = (repr(standing), repr(deed), dict(vars(rule)))
                first, second = (parts(step, program, rule, standing, deed, most=20) for _ in range(2))
                self.assertEqual(first, second)
                self.assertEqual((repr(standing), repr(deed), dict(vars(rule))), told)
            self.assertEqual(program, copy)
