"""Many made-up programs, compared with a second way of checking and running them."""

import itertools
import random
import unittest

from toldonward.errors import InvalidPath, InvalidProgram
from toldonward.programs import Program
from toldonward.truth import true_run, true_word, true_words

SLOTS = ("x", "y", "z")


def made_rows(dice, kind, words, sources, cells, depth, many):
    rows = []
    for _ in range(dice.randrange(many + 1)):
        form = dice.choice(["read", "read", "put", "if", "if", "give"] if kind == "derived" else
                           ["read", "read", "peek", "put", "if", "if", "write", "say", "say"])
        slot = dice.choice(SLOTS)
        if form in ("read", "peek"):
            rows.append((form, dice.choice(cells), slot))
        elif form == "put":
            rows.append((form, slot, dice.choice(words)))
        elif form == "write":
            rows.append((form, dice.choice(sources), slot))
        elif form == "if" and depth < 4:
            inner = [made_rows(dice, kind, words, sources, cells, depth + 1, 3) for _ in range(2)]
            rows.append((form, slot, dice.choice(words), inner[0], inner[1]))
        elif form in ("give", "say"):
            rows.append((form, slot))
    return tuple(rows)


def made_parts(dice):
    words = ("off", "on", "mid", "top")[:dice.randint(2, 4)]
    sources = ("s", "t", "u", "v")[:dice.randint(1, 4)]
    cells = sources
    derived = []
    for name in ("a", "b", "c", "d", "f", "g")[:dice.randint(0, 6)]:
        derived.append((name, made_rows(dice, "derived", words, sources, cells, 1, 5)))
        cells += (name,)
    effects = []
    for name in ("h", "i", "j", "k")[:dice.randint(0, 4)]:
        effects.append((name, made_rows(dice, "effects", words, sources, cells, 1, 5)))
    return [words, sources, tuple(derived), tuple(effects)]


def rows_in_order(rows, base):
    """(path, row, depth) of all rows, by a stack instead of recursion; no look into wrong if rows."""
    waiting = [(base + (place,), row, 1) for place, row in reversed(list(enumerate(rows)))]
    while waiting:
        path, row, depth = waiting.pop()
        yield path, row, depth
        inner = []
        for branch in (0, 1):
            for place, below in enumerate(row[3:][branch] if row[0] == "if" else ()):
                inner.append((path + (branch, place), below, depth + 1))
        waiting.extend(reversed(inner))


def due_fault(parts):
    """The fault of parts whose rows have the right forms, but may name wrong things; None if there is none."""
    words, sources, derived, effects = parts
    cells = list(sources)
    for kind, pairs in (("derived", derived), ("effects", effects)):
        for index, (name, rows) in enumerate(pairs):
            found = list(rows_in_order(rows, (kind, index)))
            for path, row, depth in found:
                right = {
                    "read": lambda: row[1] in cells,
                    "peek": lambda: row[1] in cells and kind == "effects",
                    "put": lambda: row[2] in words,
                    "if": lambda: row[2] in words and depth < 4,
                    "give": lambda: kind == "derived",
                    "write": lambda: row[1] in sources and kind == "effects",
                    "say": lambda: kind == "effects",
                }[row[0]]
                if not right():
                    return ("rows", path)
            if len(found) > 16:
                return ("many", (kind, index))
            if kind == "derived":
                cells.append(name)
    return None


def changed_row(dice, row):
    """A row of a right form that may be wrong where it stands."""
    names = ["s", "t", "u", "v", "a", "b", "c", "d", "f", "g", "h", "off", "on", "mid", "top"]
    name = dice.choice(names)
    return dice.choice([
        ("read", name, "x"), ("peek", name, "x"), ("put", "x", name), ("if", "x", name, (row,), (row, row)),
        ("give", "x"), ("write", name, "x"), ("say", "x"), row,
    ])


def swap_row(pairs, path, row):
    """The pairs with another row at the path, by lists that are changed in place."""
    thawed = [[name, thaw(rows)] for name, rows in pairs]
    rows = thawed[path[1]][1]
    for place, branch in zip(path[2:-1:2], path[3:-1:2]):
        rows = rows[place][3 + branch]
    rows[path[-1]] = row
    return tuple((name, freeze(rows)) for name, rows in thawed)


def thaw(rows):
    return [list(row[:3]) + [thaw(row[3]), thaw(row[4])] if row[0] == "if" else row for row in rows]


def freeze(rows):
    return tuple(tuple(row[:3]) + (freeze(row[3]), freeze(row[4])) if row[0] == "if" else row for row in rows)


def due_run(program, words, name):
    """A second runner: the rows that are still to be done stand in one list."""
    is_derived = name in [own for own, _ in program.derived]
    told = {}
    for source, word in zip(program.sources, words):
        told[source] = word
    for own, _ in program.derived:
        if own == name:
            break
        told[own] = due_run(program, words, own)["word"]
    slots = dict.fromkeys(SLOTS, program.words[0])
    answer = {"notes": (), "peeks": (), "says": (), "writes": (), "word": program.words[0] if is_derived else None}
    waiting = list(dict(program.derived + program.effects)[name])
    while waiting:
        form, *rest = waiting.pop(0)
        if form in ("read", "peek"):
            slots[rest[1]] = told[rest[0]]
            key = {"read": "notes", "peek": "peeks"}[form]
            if rest[0] not in [cell for cell, _ in answer[key]]:
                answer[key] += ((rest[0], told[rest[0]]),)
        elif form == "put":
            slots[rest[0]] = rest[1]
        elif form == "if":
            waiting = list(rest[3] if slots[rest[0]] != rest[1] else rest[2]) + waiting
        elif form == "give":
            answer["word"] = slots[rest[0]]
            waiting = []
        elif form == "write":
            answer["writes"] += ((rest[0], slots[rest[1]]),)
        elif form == "say":
            answer["says"] += (slots[rest[0]],)
    return answer


class ManyProgramsTest(unittest.TestCase):
    def judged(self, parts):
        """The program, or None if it is told to be wrong, just as it is due."""
        due = due_fault(parts)
        if due is None:
            return Program(*parts)
        with self.assertRaises(InvalidProgram) as caught:
            Program(*parts)
        self.assertEqual((caught.exception.part, caught.exception.path), due)
        return None

    def test_which_programs_are_right(self):
        dice = random.Random(7)
        right = 0
        for _ in range(400):
            right += self.judged(made_parts(dice)) is not None
        self.assertTrue(100 < right < 400, right)

    def test_paths_and_replaced_rows(self):
        dice = random.Random(8)
        told = {"right": 0, "rows": 0, "many": 0}
        for _ in range(300):
            parts = made_parts(dice)
            program = self.judged(parts)
            if program is None:
                continue
            due = []
            for kind, pairs in (("derived", parts[2]), ("effects", parts[3])):
                for index, (_, rows) in enumerate(pairs):
                    due.extend(rows_in_order(rows, (kind, index)))
            self.assertEqual(program.row_paths(), [path for path, _, _ in due])
            for path, row, _ in due:
                self.assertIs(program.row_at(path), row)
                other = changed_row(dice, row)
                at = {"derived": 2, "effects": 3}[path[0]]
                others = list(parts)
                others[at] = swap_row(parts[at], path, other)
                fault = due_fault(others)
                if fault is None:
                    told["right"] += 1
                    self.assertEqual(program.with_row(path, other), Program(*others))
                    continue
                told[fault[0]] += 1
                with self.assertRaises(InvalidProgram) as caught:
                    program.with_row(path, other)
                self.assertEqual((caught.exception.part, caught.exception.path), fault)
            self.assertEqual(program, Program(*parts))
        self.assertTrue(min(told.values()) > 0, told)

    def test_no_other_short_path_leads_to_a_row(self):
        dice = random.Random(9)
        items = [-1, 0, 1, 2, True, None, "x"]
        for _ in range(20):
            program = self.judged(made_parts(dice))
            if program is None:
                continue
            paths = [repr(path) for path in program.row_paths()]
            for kind in ("derived", "effects", "sources", None):
                for many in range(5):
                    for steps in itertools.product(items, repeat=many):
                        path = (kind,) + steps
                        if repr(path) in paths:
                            program.row_at(path)
                        else:
                            self.assertRaises(InvalidPath, program.row_at, path)

    def test_true_runs(self):
        dice = random.Random(10)
        runs = 0
        for _ in range(400):
            program = self.judged(made_parts(dice))
            if program is None:
                continue
            words = tuple(dice.choice(program.words) for _ in program.sources)
            for name in program.derived_names() + program.effect_names():
                runs += 1
                self.assertEqual(true_run(program, words, name), due_run(program, words, name))
            due = words + tuple(due_run(program, words, name)["word"] for name in program.derived_names())
            self.assertEqual(true_words(program, words), due)
            self.assertEqual(tuple(true_word(program, words, cell) for cell in program.cells()), due)
        self.assertTrue(runs > 500, runs)
