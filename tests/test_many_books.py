"""Points 30 to 34 and 45: books, ways, counts and costs, each found a second way over many made-up programs."""

import random
import unittest

from tests.made import made_deed, made_program, made_standing, made_words
from tests.model import due_begin, due_step
from tests.second import Graph, TooMany, due_deeds, runs_up_to
from toldonward.books import Book, is_closed
from toldonward.counting import costs, most_runs, never_done
from toldonward.errors import LimitExceeded
from toldonward.judge import KINDS
from toldonward.rules import all_rules
from toldonward.standings import deeds
from toldonward.verdicts import Verdict


def small_books(seed, times, most=12, at_most=25, **sizes):
    """Books of made-up programs, each with its graph; without batches every other time."""
    dice = random.Random(seed)
    for index in range(times):
        program = made_program(dice, **{"words": 3, "sources": 2, "derived": 3, "effects": 2, **sizes})
        for rule in all_rules():
            batches = index % 2 == 0
            try:
                graph = Graph(program, rule, batches, most, at_most)
            except TooMany:
                continue
            yield Book(program, rule, batches=batches, most=most), graph


def names_in(program):
    return [name for name, _ in program.derived + program.effects]


class BookTest(unittest.TestCase):
    def test_standings_starts_moves_and_least_runs(self):
        sizes = []
        for book, graph in small_books(101, 70):
            standings = graph.standings()
            self.assertEqual(book.standings(), standings)
            self.assertEqual(len(book), len(standings))
            self.assertEqual(book.moves(), graph.moves)
            self.assertEqual(book.moves(), deeds(book.program, batches=book.batches))
            self.assertEqual(book.starts(), [(words, parts and parts["after"])
                                             for words, parts in graph.openings.items()])
            for standing in standings:
                run = book.least_run(standing)
                self.assertEqual(run, graph.keys[standing][1])
                self.assertEqual(graph.walk(run), standing)
                self.assertIn(standing, book)
            sizes.append(len(book))
        self.assertTrue(len(sizes) > 500 and sizes.count(0) > 10 and max(sizes) > 20, sizes)

    def test_all_runs_one_after_the_other(self):
        reached = 0
        for book, graph in small_books(102, 40, words=2, derived=2):
            first = {}
            for run in runs_up_to(book.program, graph.moves, 2):
                if graph.openings[run[0]]:
                    first.setdefault(graph.walk(run), run)
            for place, (standing, run) in enumerate(first.items()):
                self.assertEqual(book.standings()[place], standing)
                self.assertEqual(book.least_run(standing), run)
            reached += len(first) == len(book)
        self.assertTrue(reached > 100, reached)

    def test_what_follows_a_deed(self):
        long = 0
        for book, graph in small_books(103, 30):
            for standing in book.standings():
                for deed in book.moves():
                    parts = graph.edges[standing][deed]
                    due = parts and (parts["after"], parts["told"], parts["log"])
                    self.assertEqual(book.follow(standing, deed), due)
                    long += due is None
        self.assertTrue(long > 20, long)

    def test_faults(self):
        counts = dict.fromkeys(KINDS, 0)
        for book, graph in small_books(104, 60):
            due = graph.faults()
            order = names_in(book.program) + [""]
            self.assertEqual(book.faults(), sorted(due, key=lambda pair: (KINDS.index(pair[0]), order.index(pair[1]))))
            self.assertEqual({fault: book.least_fault(*fault) for fault in due}, due)
            for kind in KINDS:
                self.assertEqual(book.is_free(kind), kind not in [own for own, _ in due])
                counts[kind] += not book.is_free(kind)
            self.assertEqual(book.verdict(), Verdict(list(due)))
        self.assertTrue(min(counts.values()) > 10, counts)

    def test_limits(self):
        for book, graph in small_books(105, 25):
            many = len(graph.edges)
            for limit in range(1, many):
                with self.assertRaises(LimitExceeded) as caught:
                    Book(book.program, book.rule, batches=book.batches, most=book.most, limit=limit)
                self.assertEqual(caught.exception.limit, limit)
            if many:
                again = Book(book.program, book.rule, batches=book.batches, most=book.most, limit=many)
                self.assertEqual(again.standings(), book.standings())

    def test_ways(self):
        lengths = []
        for book, graph in small_books(106, 40, at_most=12):
            for first in book.standings():
                for second, due in self.ways_from(graph, first).items():
                    self.assertEqual(book.way(first, second), due)
                    lengths.append(-1 if due is None else len(due))
        for length in (-1, 0, 1, 2, 3):
            self.assertIn(length, lengths)

    def ways_from(self, graph, first):
        """The least tuple of deeds to each standing, or None: made smaller until nothing changes."""
        best = {first: (0, ())}
        changed = True
        while changed:
            changed = False
            for standing in list(best):
                for place, deed in enumerate(graph.moves):
                    many, places = best[standing]
                    told = (many + 1, places + (place,))
                    behind = graph.behind(standing, deed)
                    if behind not in best or told < best[behind]:
                        best[behind] = told
                        changed = True
        return {standing: tuple(graph.moves[place] for place in best[standing][1]) if standing in best else None
                for standing in graph.edges}


class ClosedTest(unittest.TestCase):
    def test_lists_of_standings(self):
        dice = random.Random(107)
        found = {True: 0, False: 0}
        for book, graph in small_books(108, 30):
            standings = book.standings()
            lists = [standings, standings[::-1], standings * 2, []]
            lists += [standings[:place] + standings[place + 1:] for place in range(len(standings))]
            other = made_standing(dice, book.program, book.rule)
            lists += [standings + [other]]
            for value in lists:
                due = self.due(graph, book, value)
                closed = is_closed(book.program, book.rule, value, batches=book.batches, most=book.most)
                self.assertIs(closed, due)
                found[due] += 1
            # Behind a deed from each of them is another one, so no one can be left out of the book.
            self.assertTrue(self.due(graph, book, standings))
        self.assertTrue(min(found.values()) > 100, found)

    def due(self, graph, book, value):
        if any(parts and parts["after"] not in value for parts in graph.openings.values()):
            return False
        for standing in value:
            for deed in graph.moves:
                parts = due_step(book.program, book.rule, standing, deed, book.most)
                if parts and parts["after"] not in value:
                    return False
        return True

    def test_other_standings_with_all_that_follows_them(self):
        dice = random.Random(109)
        more = 0
        for book, _ in small_books(110, 20, at_most=10):
            inside = book.standings()
            stack = [made_standing(dice, book.program, book.rule)]
            while stack and len(inside) < 60:
                standing = stack.pop()
                if standing not in inside:
                    inside.append(standing)
                    parts = [due_step(book.program, book.rule, standing, deed, book.most) for deed in book.moves()]
                    stack.extend(each["after"] for each in parts if each)
            if not stack:
                self.assertTrue(is_closed(book.program, book.rule, inside, batches=book.batches, most=book.most))
                more += len(inside) > len(book)
        self.assertTrue(more > 20, more)


class CountsTest(unittest.TestCase):
    def test_greatest_numbers_of_runs(self):
        counts = []
        for book, graph in small_books(111, 40):
            ends = graph.ends()
            for name in names_in(book.program):
                told = most_runs(book, name)
                if any(parts is None for _, parts in ends):
                    self.assertIsNone(told)
                    continue
                many = [parts["events"].count(("run", name)) for _, parts in ends]
                self.assertEqual(told, (max(many), ends[many.index(max(many))][0]))
                counts.append(told[0])
        for many in (1, 2, 3, 4):
            self.assertIn(many, counts)

    def test_rows_that_are_never_done(self):
        found = []
        for book, graph in small_books(112, 40):
            done = {path for _, parts in graph.ends() if parts for path in parts["done"]}
            due = [path for path in book.program.row_paths() if path not in done]
            self.assertEqual(never_done(book), due)
            found.append(len(due))
        self.assertTrue(found.count(0) > 10 and max(found) > 5, found)

    def test_costs(self):
        dice = random.Random(113)
        long = 0
        for _ in range(150):
            program = made_program(dice)
            run = (made_words(dice, program), tuple(made_deed(dice, program) for _ in range(dice.randint(0, 5))))
            found = costs(program, run, most=15)
            self.assertEqual(found, [self.due_cost(program, rule, run, 15) for rule in all_rules()])
            long += found.count(None)
        self.assertTrue(long > 50, long)

    def due_cost(self, program, rule, run, most):
        parts = due_begin(program, rule, run[0], most)
        events = []
        for deed in run[1]:
            if parts:
                events.extend(parts["events"])
                parts = due_step(program, rule, parts["after"], deed, most)
        if not parts:
            return None
        events.extend(parts["events"])
        names = [event[1] for event in events if event[0] == "run"]
        own = [name for name, _ in program.effects]
        return (len([name for name in names if name in own]), len([name for name in names if name not in own]))

    def test_pull_with_cut_has_the_fewest_runs(self):
        dice = random.Random(114)
        better = 0
        for _ in range(250):
            program = made_program(dice, peeks=0, writes=0)
            run = (made_words(dice, program), tuple(made_deed(dice, program) for _ in range(dice.randint(0, 8))))
            found = costs(program, run)
            for place, rule in enumerate(all_rules()):
                if (rule.mode, rule.cut) == ("pull", True):
                    for part in (0, 1):
                        self.assertEqual(found[place][part], min(each[part] for each in found))
                better += found[place] > found[6]
        self.assertTrue(better > 200, better)

    def test_deeds_without_batches_or_with(self):
        dice = random.Random(115)
        for _ in range(50):
            program = made_program(dice, words=4, sources=4)
            for batches in (True, False):
                self.assertEqual(deeds(program, batches=batches), due_deeds(program, batches))
