"""Points 36 to 39: differences, partings and classes, each found a second way over many made-up programs."""

import itertools
import random
import unittest

from tests.made import made_program
from tests.second import Compared, Graph, Told, TooMany, apart_pairs, due_deeds, runs_up_to
from toldonward.alike import alike, classes, difference, parting
from toldonward.books import Book
from toldonward.errors import LimitExceeded
from toldonward.programs import Program
from toldonward.rules import all_rules


def spoiled(dice, program):
    """A program with the same sources and words; a body or a row is another one."""
    paths = program.row_paths()
    form = dice.random()
    if form < 0.3:
        other = made_program(dice, words=3, sources=2, derived=3, effects=2)
        while (other.words, other.sources) != (program.words, program.sources):
            other = made_program(dice, words=3, sources=2, derived=3, effects=2)
        return other
    if form < 0.5 and program.derived:
        # The last derived cell may be read by effects: they are left out with it.
        return Program(program.words, program.sources, program.derived[:-1], ())
    if form < 0.7 and len(program.effects) > 1:
        return Program(program.words, program.sources, program.derived, program.effects[::-1])
    path = dice.choice(paths)
    slot = dice.choice("xyz")
    return program.with_row(path, ("put", slot, dice.choice(program.words)))


class Case:
    """Two pairs to be compared, with what is due."""

    def __init__(self, dice):
        self.first = made_program(dice, words=3, sources=2, derived=3, effects=2)
        self.second = spoiled(dice, self.first) if dice.random() < 0.4 else self.first
        rules = all_rules()
        self.rules = [dice.choice(rules), dice.choice(rules)]
        self.named = {"says_only": dice.random() < 0.3, "batches": dice.random() < 0.5, "most": dice.choice((9, 12))}
        self.moves = [
            deed for deed in due_deeds(self.first, self.named["batches"])
            if deed[0] != "read" or not self.named["says_only"] and deed[1] in dict(self.second.derived)
        ]
        sides = [Told(program, rule, self.named["most"]) for program, rule in self.pairs()]
        self.due = Compared(self.first, self.moves, *sides, at_most=60)

    def pairs(self):
        return list(zip((self.first, self.second), self.rules))


def cases(seed, times):
    dice = random.Random(seed)
    while times:
        try:
            case = Case(dice)
        except TooMany:
            continue
        times -= 1
        yield case


class DifferenceTest(unittest.TestCase):
    def test_least_runs_and_limits(self):
        lengths, ahead = [], []
        for case in cases(121, 900):
            run, many = case.due.least(), case.due.many_ahead()
            self.assertEqual(difference(*case.pairs(), **case.named), run)
            self.assertIs(alike(*case.pairs(), **case.named), run is None)
            if many:
                self.assertEqual(difference(*case.pairs(), **case.named, limit=many), run)
            if many > 1:
                for call in (difference, alike):
                    with self.assertRaises(LimitExceeded) as caught:
                        call(*case.pairs(), **case.named, limit=many - 1)
                    self.assertEqual(caught.exception.limit, many - 1)
            lengths.append(len(run[1]) if run else None)
            ahead.append(many)
        for length in (None, 0, 1, 2):
            self.assertTrue(lengths.count(length) > 3, lengths)
        self.assertTrue(max(ahead) > 30 and 0 in ahead, ahead)

    def test_all_runs_one_after_the_other(self):
        found = []
        for case in cases(122, 150):
            sides = [Told(program, rule, case.named["most"]) for program, rule in case.pairs()]
            first = next((run for run in runs_up_to(case.first, case.moves, 2) if self.is_apart(sides, run)), None)
            run = difference(*case.pairs(), **case.named)
            if first or run is None:
                self.assertEqual(run, first)
            else:
                self.assertTrue(len(run[1]) > 2)
            found.append(first)
        self.assertTrue(10 < found.count(None) < 140, found.count(None))

    def is_apart(self, sides, run):
        """True if the run shows a difference at its end, and none ahead of that."""
        told = [side.begin(run[0]) for side in sides]
        for place in range(len(run[1]) + 1):
            shown = [each and each[1:] for each in told]
            if shown[0] != shown[1]:
                return place == len(run[1])
            if place == 0:
                if told[0] is None:
                    return False
                standings = [each[0] for each in told]
            elif told[0]:
                standings = [each[0] for each in told]
            if place < len(run[1]):
                told = [side.go(standing, run[1][place]) for side, standing in zip(sides, standings)]
        return False

    def test_the_other_way_round(self):
        for case in cases(124, 150):
            first, second = case.pairs()
            if case.first.derived_names() == case.second.derived_names():
                self.assertEqual(difference(second, first, **case.named), difference(first, second, **case.named))
            self.assertIsNone(difference(first, first, **case.named))
            self.assertTrue(alike(second, second, **case.named, limit=20000))


class ClassesTest(unittest.TestCase):
    def books(self, seed, times, **sizes):
        dice = random.Random(seed)
        for index in range(times):
            program = made_program(dice, **{"words": 3, "sources": 2, "derived": 3, "effects": 2, **sizes})
            for rule in all_rules():
                try:
                    graph = Graph(program, rule, index % 2 == 0, 10, 14)
                except TooMany:
                    continue
                yield Book(program, rule, batches=index % 2 == 0, most=10), graph

    def test_classes(self):
        sizes = []
        for book, graph in self.books(125, 45):
            marked = apart_pairs(graph)
            standings = graph.standings()
            due = []
            for place, standing in enumerate(standings):
                for group in due:
                    if (standings[group[0]], standing) not in marked:
                        group.append(place)
                        break
                else:
                    due.append([place])
            self.assertEqual(classes(book), due)
            sizes.extend(map(len, due))
        self.assertTrue(sizes.count(1) > 300 and sizes.count(2) > 50 and max(sizes) > 4)

    def test_partings(self):
        lengths = []
        for book, graph in self.books(126, 30, derived=2):
            marked = apart_pairs(graph)
            for pair in itertools.product(graph.edges, repeat=2):
                found = parting(book, *pair)
                self.assertEqual(found is not None, pair in marked)
                if found is not None:
                    self.assertEqual(found, self.due_parting(graph, pair))
                    lengths.append(len(found))
        self.assertTrue(lengths.count(1) > 100 and lengths.count(2) > 10, (lengths.count(1), lengths.count(2)))

    def due_parting(self, graph, pair):
        """All tuples of deeds, one after the other, up to the first one that shows a difference at its end."""
        rows = [((), pair)]
        while True:
            behind = []
            for deeds, (one, two) in rows:
                for deed in graph.moves:
                    if graph.shown(one, deed) != graph.shown(two, deed):
                        return deeds + (deed,)
                    behind.append((deeds + (deed,), (graph.behind(one, deed), graph.behind(two, deed))))
            rows = behind
