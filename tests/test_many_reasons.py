"""Points 51 to 58 over many made-up programs: a second way to find the answers, and the facts of the points."""

import itertools
import math
import random
import unittest
from fractions import Fraction

from tests.made import made_program, made_standing, made_words
from toldonward.reasons import (certainty, deciding_sources, is_lever, is_reason, least_levers, least_reasons,
                                lever_words, shares, telling)
from toldonward.rules import all_rules
from toldonward.truth import true_run
from toldonward.why import kept_reach, reached, reasons_within, steering


def all_sets(program):
    """All sets of sources in the order of point 53."""
    sizes = range(len(program.sources) + 1)
    return [chosen for size in sizes for chosen in itertools.combinations(program.sources, size)]


def all_words(program):
    return list(itertools.product(program.words, repeat=len(program.sources)))


class Due:
    """What is due for a body at some words, straight from the words of the points."""

    def __init__(self, program, words, name):
        self.program = program
        self.words = words
        self.table = {}
        for row in all_words(program):
            run = true_run(program, row, name)
            self.table[row] = (run["word"], run["says"], run["writes"])
        self.own = self.table[words]

    def agree(self, row, chosen):
        return all(source not in chosen or first == second
                   for source, first, second in zip(self.program.sources, row, self.words))

    def outside(self, chosen):
        return [source for source in self.program.sources if source not in chosen]

    def is_reason(self, chosen):
        return all(told == self.own for row, told in self.table.items() if self.agree(row, chosen))

    def lever_words(self, chosen):
        found = [row for row in self.table if self.agree(row, self.outside(chosen)) and self.table[row] != self.own]
        return min(found, key=lambda row: [self.program.words.index(word) for word in row], default=None)

    def certainty(self, chosen):
        told = [told == self.own for row, told in self.table.items() if self.agree(row, chosen)]
        return Fraction(sum(told), len(told))

    def share(self, source):
        total = Fraction(0)
        for order in itertools.permutations(self.program.sources):
            ahead = order[:order.index(source)]
            total += self.certainty(ahead + (source,)) - self.certainty(ahead)
        return total / math.factorial(len(self.program.sources))

    def brings(self, chosen, due):
        return [row for row in self.table if self.agree(row, self.outside(chosen)) and self.table[row] == due]

    def steering(self, due):
        found = []
        for chosen in all_sets(self.program):
            rows = self.brings(chosen, due)
            if rows and not any(self.brings(part, due) for part in all_sets(self.program) if set(part) < set(chosen)):
                found.append((chosen, rows[0]))
        return found


def least(chosen_sets):
    return [chosen for chosen in chosen_sets if not any(set(other) < set(chosen) for other in chosen_sets)]


def pair(fraction):
    return (fraction.numerator, fraction.denominator)


def due_reach(program, told, name):
    """The sources reached, by a walk: told holds the cells that each body was told."""
    seen = []
    waiting = list(told[name])
    while waiting:
        cell = waiting.pop()
        if cell not in seen:
            seen.append(cell)
            waiting.extend(told.get(cell, ()))
    return tuple(source for source in program.sources if source in seen)


def true_reach(program, words, name):
    told = {}
    for own in program.derived_names() + program.effect_names():
        run = true_run(program, words, own)
        told[own] = [cell for cell, _ in run["notes"] + run["peeks"]]
    return due_reach(program, told, name)


def cases(seed, times, **sizes):
    """Made-up programs, words and names."""
    dice = random.Random(seed)
    for _ in range(times):
        program = made_program(dice, **sizes)
        words = made_words(dice, program)
        for name in program.derived_names() + program.effect_names():
            yield dice, program, words, name


class ManyReasonsTest(unittest.TestCase):
    def test_all_functions_of_reasons(self):
        for sizes in ({"sources": 4, "words": 2}, {"sources": 3, "words": 3}, {"sources": 2, "words": 4}):
            for _, program, words, name in cases(31, 40, **sizes):
                due = Due(program, words, name)
                self.assertEqual(telling(program, words, name), due.own)
                reasons, levers = [], []
                for chosen in all_sets(program):
                    self.assertEqual(is_reason(program, words, name, chosen), due.is_reason(chosen))
                    found = due.lever_words(chosen)
                    self.assertEqual(lever_words(program, words, name, chosen), found)
                    self.assertEqual(is_lever(program, words, name, chosen), found is not None)
                    self.assertEqual(certainty(program, words, name, chosen), pair(due.certainty(chosen)))
                    reasons += [chosen] * due.is_reason(chosen)
                    levers += [chosen] * (found is not None)
                self.assertEqual(least_reasons(program, words, name), least(reasons))
                self.assertEqual(least_levers(program, words, name), least(levers))
                deciding = {source for chosen in least(reasons) for source in chosen}
                self.assertEqual(deciding_sources(program, words, name),
                                 tuple(source for source in program.sources if source in deciding))
                self.assertEqual(shares(program, words, name), [pair(due.share(source)) for source in program.sources])

    def test_four_words_and_four_sources(self):
        for _, program, words, name in cases(32, 6, sources=4, words=4, derived=2, effects=2):
            due = Due(program, words, name)
            self.assertEqual(shares(program, words, name), [pair(due.share(source)) for source in program.sources])

    def test_reached(self):
        parts = {True: 0, False: 0}
        for _, program, words, name in cases(33, 200):
            inside = true_reach(program, words, name)
            self.assertEqual(reached(program, words, name), inside)
            found = [chosen for chosen in least_reasons(program, words, name) if set(chosen) <= set(inside)]
            self.assertEqual(reasons_within(program, words, name), found)
            parts[len(inside) < len(program.sources)] += 1
        self.assertTrue(min(parts.values()) > 30, parts)

    def test_kept_reach(self):
        dice = random.Random(34)
        for _ in range(200):
            program = made_program(dice)
            rule = dice.choice(all_rules())
            standing = made_standing(dice, program, rule)
            told = {}
            for name, entry in zip(program.derived_names(), standing[1]):
                told[name] = [] if entry is None else [cell for cell, _ in entry[2]]
            for name, (notes, peeks) in zip(program.effect_names(), standing[2]):
                told[name] = [cell for cell, _ in notes + peeks]
            for name in told:
                self.assertEqual(kept_reach(program, rule, standing, name), due_reach(program, told, name))

    def test_steering(self):
        found = 0
        for dice, program, words, name in cases(35, 100):
            due = Due(program, words, name)
            for told in dict.fromkeys(due.table.values()):
                self.assertEqual(steering(program, words, name, told), due.steering(told))
                found += 1
            self.assertEqual(steering(program, words, name, due.own), [((), words)])
        self.assertTrue(found > 200, found)


class FactsTest(unittest.TestCase):
    def test_facts_of_point_53(self):
        kinds = {True: 0, False: 0}
        for _, program, words, name in cases(41, 120):
            chosen_sets = all_sets(program)
            reasons = [chosen for chosen in chosen_sets if is_reason(program, words, name, chosen)]
            levers = [chosen for chosen in chosen_sets if is_lever(program, words, name, chosen)]
            self.assertIn(program.sources, reasons)
            for chosen in chosen_sets:
                outside = tuple(source for source in program.sources if source not in chosen)
                self.assertEqual(chosen in levers, outside not in reasons)
                for found in (reasons, levers):
                    holds = any(set(other) <= set(chosen) for other in found)
                    self.assertEqual(chosen in found, holds)
                self.assertEqual(chosen in reasons, all(set(chosen) & set(lever) for lever in levers))
                self.assertEqual(chosen in levers, all(set(chosen) & set(reason) for reason in reasons))
            first, second = least_reasons(program, words, name), least_levers(program, words, name)
            for own, other in ((first, second), (second, first)):
                hitting = [chosen for chosen in chosen_sets if all(set(chosen) & set(part) for part in other)]
                self.assertEqual(own, least(hitting))
            same = len({telling(program, row, name) for row in all_words(program)}) == 1
            kinds[same] += 1
            if same:
                self.assertEqual((first, second), ([()], []))
            else:
                self.assertIn(program.sources, levers)
            self.check_deciding(program, words, name, second)
        self.assertTrue(min(kinds.values()) > 20, kinds)

    def check_deciding(self, program, words, name, levers):
        deciding = deciding_sources(program, words, name)
        in_levers = [source for source in program.sources if any(source in lever for lever in levers)]
        self.assertEqual(deciding, tuple(in_levers))
        self.assertTrue(is_reason(program, words, name, deciding))
        own = telling(program, words, name)
        for row in all_words(program):
            if telling(program, row, name) != own:
                apart = {source for source, one, two in zip(program.sources, words, row) if one != two}
                for at in (words, row):
                    self.assertTrue(any(set(lever) <= apart for lever in least_levers(program, at, name)))

    def test_facts_of_point_54(self):
        below = 0
        for _, program, words, name in cases(42, 120):
            for chosen in all_sets(program):
                share = certainty(program, words, name, chosen)
                self.assertEqual(share == (1, 1), is_reason(program, words, name, chosen))
                self.assertTrue(0 < share[0] <= share[1] and math.gcd(*share) == 1)
            found = [Fraction(*share) for share in shares(program, words, name)]
            self.assertEqual(sum(found), 1 - Fraction(*certainty(program, words, name, ())))
            below += any(share < 0 for share in found)
            for place, source in enumerate(program.sources):
                others = program.sources[:place] + program.sources[place + 1:]
                if all(is_reason(program, row, name, others) for row in all_words(program)):
                    self.assertEqual(shares(program, words, name)[place], (0, 1))
        self.assertTrue(below > 3, below)

    def test_facts_of_point_55(self):
        for _, program, words, name in cases(43, 200):
            inside = reached(program, words, name)
            self.assertTrue(is_reason(program, words, name, inside))
            self.assertTrue(reasons_within(program, words, name))
            for row in all_words(program):
                agree = all(source not in inside or one == two
                            for source, one, two in zip(program.sources, words, row))
                if agree:
                    self.assertEqual(reached(program, row, name), inside)
