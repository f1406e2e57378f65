"""Points 46 to 48: changes, healing sets and rules without faults, each found a second way over made-up programs."""

import itertools
import random
import unittest

from tests.made import made_program
from tests.second import Graph, TooMany, changed_by_lines
from toldonward.errors import InvalidProgram, LimitExceeded
from toldonward.heals import heals, is_change, rules_free, with_changes
from toldonward.judge import KINDS
from toldonward.programs import Program
from toldonward.rules import all_rules


def due_changes(program):
    """All changes of the program."""
    found = []
    for path in program.row_paths():
        if program.row_at(path)[0] == "read":
            found.append(("early", path))
            if path[0] == "effects":
                found.append(("peek", path))
    return found


def reading_program(dice):
    """A program whose effects read and say some cells: changes heal it more often than others."""
    cells = ("s", "t")[:dice.randint(1, 2)]
    sources, derived, effects = cells, [], []
    for name in ("d", "c")[:dice.randint(1, 2)]:
        reads = tuple(("read", dice.choice(cells), slot) for slot in dice.choice(("x", "xy")))
        derived.append((name, reads + (("give", "x"),)))
        cells += (name,)
    for name in ("e", "f")[:dice.randint(1, 2)]:
        reads = tuple(("read", dice.choice(cells), slot) for slot in dice.choice(("xy", "xyz", "xyx")))
        effects.append((name, reads + (("say", "x"), ("say", "y"))))
    return Program(("off", "on"), sources, tuple(derived), tuple(effects))


class ChangesTest(unittest.TestCase):
    def test_all_changes_and_no_others(self):
        dice = random.Random(141)
        for _ in range(100):
            program = made_program(dice)
            paths = program.row_paths() + [("derived", 0), ("effects", 0), (), ("effects", 9, 0), ("derived", 0, 99)]
            due = due_changes(program)
            for change in itertools.product(("peek", "early", "late", "read"), paths):
                self.assertIs(is_change(program, change), change in due)

    def test_programs_with_changes(self):
        dice = random.Random(142)
        counts = {"right": 0, "many": 0}
        for _ in range(600):
            program = made_program(dice)
            changes = due_changes(program)
            chosen = dice.sample(changes, min(len(changes), dice.choice((0, 1, 2, 3, 50, 50))))
            due = self.outcome(changed_by_lines, program, chosen)
            before = (program.words, program.sources, program.derived, program.effects)
            self.assertEqual(self.outcome(with_changes, program, dice.choice((list, tuple))(chosen)), due)
            self.assertEqual((program.words, program.sources, program.derived, program.effects), before)
            counts["many" if isinstance(due, tuple) else "right"] += 1
        self.assertTrue(min(counts.values()) > 20, counts)

    def outcome(self, call, *arguments):
        try:
            return call(*arguments)
        except InvalidProgram as error:
            return (error.part, error.path)


class HealsTest(unittest.TestCase):
    MOST = 10

    def kinds_of(self, program, rule, batches, at_most=25):
        """The kinds of the faults of the book, and the number of its standings."""
        key = (program.derived, program.effects, program.words, rule.mode, rule.cut, rule.inner, batches)
        if key not in self.known:
            graph = Graph(program, rule, batches, self.MOST, at_most)
            self.known[key] = ({kind for kind, _ in graph.faults()}, len(graph.edges))
        return self.known[key]

    def due_heals(self, program, rule, kind, candidates, batches):
        """The healing sets, and the greatest number of standings of a book that has to be looked at."""
        before, most = self.kinds_of(program, rule, batches)
        if kind not in before:
            return [()], most
        for size in (1, 2, 3):
            found = []
            for places in itertools.combinations(range(len(candidates)), size):
                changes = tuple(candidates[place] for place in places)
                try:
                    changed = changed_by_lines(program, changes)
                except InvalidProgram:
                    continue
                kinds, many = self.kinds_of(changed, rule, batches)
                most = max(most, many)
                if kind not in kinds and kinds <= before:
                    found.append(changes)
            if found:
                return found, most
        return [], most

    def test_healing_sets_and_limits(self):
        dice = random.Random(143)
        sizes = []
        self.known = {}
        while len(sizes) < 200:
            program = dice.choice((reading_program(dice), made_program(dice, words=2, sources=2, derived=2, effects=2)))
            # Under "push" there are more faults.
            rule, batches = dice.choice(all_rules()[:4] * 3 + all_rules()), dice.random() < 0.5
            changes = due_changes(program)
            candidates = dice.sample(changes, min(len(changes), dice.randint(0, 8)))
            try:
                kinds, _ = self.kinds_of(program, rule, batches)
                kind = dice.choice(sorted(kinds) * 6 + list(KINDS))
                due, most = self.due_heals(program, rule, kind, candidates, batches)
            except TooMany:
                continue
            named = {"batches": batches, "most": self.MOST}
            self.assertEqual(heals(program, rule, kind, candidates, **named), due)
            if most:
                self.assertEqual(heals(program, rule, kind, tuple(candidates), **named, limit=most), due)
            if most > 1:
                with self.assertRaises(LimitExceeded) as caught:
                    heals(program, rule, kind, candidates, **named, limit=most - 1)
                self.assertEqual(caught.exception.limit, most - 1)
            sizes.append((len(due[0]) if due else None, len(due)))
        firsts = [size for size, _ in sizes]
        counts = [firsts.count(size) for size in (None, 0, 1, 2)]
        self.assertTrue(min(counts) > 1, counts)
        self.assertTrue(max(many for _, many in sizes) > 2, sizes)

    def test_rules_without_faults(self):
        dice = random.Random(144)
        sizes = []
        self.known = {}
        while len(sizes) < 60:
            program = made_program(dice, words=2, sources=2, derived=2, effects=2)
            batches = dice.random() < 0.5
            kinds = dice.sample(KINDS, dice.randint(0, 3))
            try:
                books = [self.kinds_of(program, rule, batches) for rule in all_rules()]
            except TooMany:
                continue
            due = [rule for rule, (own, _) in zip(all_rules(), books) if not own & set(kinds)]
            most = max(many for _, many in books)
            named = {"batches": batches, "most": self.MOST}
            self.assertEqual(rules_free(program, kinds, **named), due)
            self.assertEqual(rules_free(program, tuple(kinds) * 2, **named, limit=max(most, 1)), due)
            if most > 1:
                with self.assertRaises(LimitExceeded) as caught:
                    rules_free(program, kinds, **named, limit=most - 1)
                self.assertEqual(caught.exception.limit, most - 1)
            sizes.append(len(due))
        self.assertTrue(sizes.count(12) > 10 and min(sizes) < 6, sizes)
