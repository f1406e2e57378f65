"""Points 12 and 13: what is a standing of a program under a rule."""

import copy
import random
import unittest

from tests.cases import deep_values
from tests.made import made_program, made_standing
from tests.samples import COPY, ODD_VALUES, WORDS
from toldonward.programs import Program
from toldonward.rules import Rule, all_rules
from toldonward.standings import is_standing

SAY = (("read", "s", "x"), ("read", "d", "y"), ("peek", "b", "z"), ("say", "y"))
PROGRAM = Program(WORDS, ("s", "t"), (("d", COPY), ("b", COPY)), (("e", SAY), ("f", ())))
PUSH = Rule("push", True, "later")
PULL = Rule("pull", True, "later")
LEVEL = Rule("level", True, "later")
RULES = (PUSH, PULL, LEVEL)

# The entries of d and b, the entries of e and f, and the readers of s, t, d and b.
RIGHT = (
    ("off", "on"),
    (("off", False, (("s", "off"), ("t", "on"))), ("on", False, (("d", "off"),))),
    (((("s", "off"), ("b", "on")), (("d", "off"), ("s", "on"))), ((), ())),
    (("e", "d"), ("d",), ("b",), ("e",)),
)
REST = (
    ("off", "on"),
    (None, None),
    (((("s", "off"),), ()), ((), ())),
    (("e",), (), (), ()),
)


def swapped(value, path, item):
    """The value with another item at the path."""
    if not path:
        return item
    place = path[0]
    return value[:place] + (swapped(value[place], path[1:], item),) + value[place + 1:]


def item_at(value, path):
    for place in path:
        value = value[place]
    return value


def paths_in(value, path=()):
    """The paths of all items of nested tuples, the value itself included."""
    yield path
    if isinstance(value, tuple):
        for place, item in enumerate(value):
            yield from paths_in(item, path + (place,))


class RightTest(unittest.TestCase):
    def test_right_under_each_rule(self):
        for rule in all_rules():
            self.assertIs(is_standing(PROGRAM, rule, RIGHT), True)
            self.assertIs(is_standing(PROGRAM, rule, REST), True)

    def test_stale_cells_under_pull_alone(self):
        for places in ((0,), (1,), (0, 1)):
            value = RIGHT
            for place in places:
                value = swapped(value, (1, place, 1), True)
            for rule in all_rules():
                self.assertIs(is_standing(PROGRAM, rule, value), rule.mode == "pull")

    def test_readers_in_another_order(self):
        self.assertTrue(is_standing(PROGRAM, PUSH, swapped(RIGHT, (3, 0), ("d", "e"))))

    def test_words_need_not_be_those_of_the_cells(self):
        for first in WORDS:
            for second in WORDS:
                value = swapped(swapped(RIGHT, (0,), (first, second)), (1, 0, 0), second)
                self.assertTrue(is_standing(PROGRAM, PUSH, value))

    def test_notes_need_not_be_cells_that_the_body_reads(self):
        value = swapped(RIGHT, (2, 1), ((("t", "off"),), (("t", "on"), ("b", "on"), ("d", "on"), ("s", "on"))))
        self.assertTrue(is_standing(PROGRAM, PULL, swapped(value, (3, 1), ("d", "f"))))

    def test_small_programs(self):
        alone = Program(WORDS, ("s",), (), ())
        self.assertTrue(is_standing(alone, PUSH, (("on",), (), (), ((),))))
        self.assertFalse(is_standing(alone, PUSH, (("on",), (), (), ())))
        self.assertFalse(is_standing(alone, PUSH, ((), (), (), ())))
        self.assertFalse(is_standing(alone, PUSH, (("on",), (), ((), ()), ((),))))

    def test_a_derived_cell_that_was_never_worked_out_behind_one_that_was(self):
        value = (("off", "on"), (("on", False, ()), None), (((), (("d", "on"),)), ((), ())), ((), (), (), ()))
        self.assertTrue(is_standing(PROGRAM, PUSH, value))
        other = swapped(value, (1,), (None, ("on", False, ())))
        self.assertFalse(is_standing(PROGRAM, PUSH, other))
        self.assertTrue(is_standing(PROGRAM, PUSH, swapped(other, (2, 0, 1), (("b", "on"),))))


class WrongTest(unittest.TestCase):
    def wrong(self, value, rules=RULES):
        for rule in rules:
            self.assertIs(is_standing(PROGRAM, rule, value), False, value)

    def test_other_forms_everywhere(self):
        others = ODD_VALUES + ["other", "ON", "x", ("off",), ("q", "off"), ["s"], {"s": "off"}, [("s", "off")]]
        for path in paths_in(RIGHT):
            old = item_at(RIGHT, path)
            for item in others:
                is_right = item == old or (old in WORDS and item in WORDS)
                # Flags have a test of their own.
                if not is_right and not isinstance(old, bool):
                    self.wrong(swapped(RIGHT, path, item))
            if isinstance(old, tuple):
                self.wrong(swapped(RIGHT, path, list(old)))

    def test_flags_that_are_none(self):
        for item in (0, 1, None, "", "False", [], (), (False,), {}):
            self.wrong(swapped(RIGHT, (1, 0, 1), item))

    def test_too_few_and_too_many_items_everywhere(self):
        for path in paths_in(RIGHT):
            old = item_at(RIGHT, path)
            if isinstance(old, tuple):
                # Fewer peeks are right: no other part of the standing depends on them.
                if old and path != (2, 0, 1):
                    self.wrong(swapped(RIGHT, path, old[:-1]))
                    self.wrong(swapped(RIGHT, path, old[1:]))
                if old:
                    self.wrong(swapped(RIGHT, path, old + old[-1:]))
                self.wrong(swapped(RIGHT, path, old + ((),)))
                self.wrong(swapped(RIGHT, path, old + (None,)))

    def test_words_of_no_program(self):
        for path in ((0, 0), (0, 1), (1, 0, 0), (1, 1, 0), (1, 0, 2, 1, 1), (1, 1, 2, 0, 1), (2, 0, 0, 0, 1),
                     (2, 0, 1, 1, 1)):
            self.assertIn(item_at(RIGHT, path), WORDS)
            for item in ("mid", "s", "d", "", "ON", None, 0, True, ("on",), ["on"]):
                self.wrong(swapped(RIGHT, path, item))

    def test_stale_where_nothing_is(self):
        self.wrong(swapped(RIGHT, (1, 0, 1), True), (PUSH, LEVEL))
        self.wrong(swapped(RIGHT, (1, 1, 1), True), (PUSH, LEVEL))

    def test_a_cell_twice(self):
        self.wrong(swapped(RIGHT, (1, 0, 2), (("s", "off"), ("t", "on"), ("s", "off"))))
        self.wrong(swapped(RIGHT, (1, 0, 2), (("s", "off"), ("t", "on"), ("s", "on"))))
        self.wrong(swapped(RIGHT, (2, 0, 0), (("s", "off"), ("b", "on"), ("b", "off"))))
        self.wrong(swapped(RIGHT, (2, 0, 1), (("d", "off"), ("d", "off"))))

    def test_unknown_cells(self):
        for cell in ("q", "e", "f", "on", "", None, 0, ("s",), ["s"]):
            self.wrong(swapped(RIGHT, (2, 0, 1), ((cell, "on"),)))
            self.wrong(swapped(RIGHT, (2, 0, 1, 0, 0), cell))
            self.wrong(swapped(RIGHT, (2, 0, 0, 0, 0), cell))
            self.wrong(swapped(RIGHT, (1, 0, 2, 0, 0), cell))

    def test_derived_cells_that_note_themselves_or_later_ones(self):
        base = swapped(swapped(RIGHT, (1, 0, 2), ()), (1, 1, 2), ())
        base = swapped(base, (3,), (("e",), (), (), ("e",)))
        self.assertTrue(is_standing(PROGRAM, PUSH, base))
        for place, cell, at in ((0, "d", 2), (0, "b", 3), (1, "b", 3)):
            name = "db"[place]
            value = swapped(base, (1, place, 2), ((cell, "on"),))
            self.wrong(swapped(value, (3, at), item_at(base, (3, at)) + (name,)))
        value = swapped(base, (1, 1, 2), (("d", "on"),))
        self.assertTrue(is_standing(PROGRAM, PUSH, swapped(value, (3, 2), ("b",))))

    def test_derived_cells_that_were_never_worked_out(self):
        never = swapped(RIGHT, (1, 0), None)
        never = swapped(never, (3,), (("e",), (), (), ("e",)))
        self.wrong(swapped(swapped(never, (1, 1, 2), (("d", "off"),)), (3, 2), ("b",)))
        clean = swapped(never, (1, 1, 2), ())
        self.wrong(clean)
        self.assertTrue(is_standing(PROGRAM, PUSH, swapped(clean, (2, 0, 1), ())))
        self.wrong(swapped(swapped(RIGHT, (1, 1), None), (3, 2), ()))

    def test_wrong_readers(self):
        for names in ((), ("e",), ("d",), ("e", "e"), ("d", "e", "e"), ("d", "d", "e"), ("e", "d", "f"), ("e", "f"),
                      ("e", "d", "b"), ("e", "s"), ("e", "q"), ("e", None), ("e", 0), ("e", ("d",)), ("e", ["d"])):
            self.wrong(swapped(RIGHT, (3, 0), names))
        self.wrong(swapped(RIGHT, (3, 1), ()))
        self.wrong(swapped(RIGHT, (3, 1), ("d", "f")))
        # A name that only peeks a cell is none of its readers.
        self.wrong(swapped(RIGHT, (3, 2), ("b", "e")))
        self.wrong(swapped(RIGHT, (3,), (("e", "d"), ("b",), ("d",), ("e",))))

    def test_deep_values(self):
        for value in deep_values():
            for path in ((), (0,), (0, 0), (1,), (1, 0), (1, 0, 0), (1, 0, 1), (1, 0, 2), (1, 0, 2, 0), (2,), (2, 0),
                         (2, 0, 0), (2, 0, 1), (2, 0, 1, 0), (2, 0, 1, 0, 0), (3,), (3, 0), (3, 0, 0)):
                self.wrong(swapped(RIGHT, path, value))

    def test_values_are_not_modified(self):
        for value in (list(RIGHT), [list(RIGHT)], ([["off"]], {}, [], {"a": [1]})):
            before = copy.deepcopy(value)
            self.wrong(value)
            self.assertEqual(value, before)


def due_standing(program, rule, value):
    """A second way to judge nested tuples that hold no lists and no dicts: all clauses, one after the other."""
    if not (isinstance(value, tuple) and len(value) == 4 and all(isinstance(part, tuple) for part in value)):
        return False
    words, derived, effects, readers = value
    if [len(part) for part in value] != [len(program.sources), len(program.derived), len(program.effects),
                                         len(program.cells())]:
        return False
    told = {}
    try:
        for name, entry in zip(program.derived_names(), derived):
            if entry is not None:
                word, stale, notes = entry
                told[name] = [(cell, noted) for cell, noted in notes]
                if word not in program.words or str(stale) not in ("True", "False")[rule.mode != "pull":]:
                    return False
        for name, (notes, peeks) in zip(program.effect_names(), effects):
            told[name] = [(cell, noted) for cell, noted in notes]
            told[name + " peeks"] = [(cell, noted) for cell, noted in peeks]
    except (TypeError, ValueError):
        return False
    cells = program.cells()
    for name, pairs in told.items():
        ahead = cells[:cells.index(name)] if name in cells else cells
        names = [cell for cell, _ in pairs]
        if len(set(names)) < len(names) or not set(names) <= set(ahead) & (set(told) | set(program.sources)):
            return False
        if not {noted for _, noted in pairs} <= set(program.words):
            return False
    due = [sorted(name for name in told if " " not in name and cell in dict(told[name])) for cell in cells]
    if not all(isinstance(names, tuple) for names in readers) or not set(words) <= set(program.words):
        return False
    return [sorted(map(str, names)) for names in readers] == due


class ManyStandingsTest(unittest.TestCase):
    ITEMS = ["off", "on", "mid", "s", "t", "a", "b", "e", None, True, False, (), (("s", "on"),), ("s", "on"),
             ("on", False, ()), ("on", True, ()), ("on", True, (("s", "off"),)), ("e",), ("a", "e"), ((), ())]

    def test_made_up_standings_and_changed_ones(self):
        dice = random.Random(21)
        found = {True: 0, False: 0}
        for _ in range(300):
            program = made_program(dice)
            rule = dice.choice(all_rules())
            value = made_standing(dice, program, rule)
            self.assertTrue(is_standing(program, rule, value))
            for _ in range(20):
                path = dice.choice(list(paths_in(value)))
                other = swapped(value, path, dice.choice(self.ITEMS + [item_at(value, path)] * 3))
                for own in (rule, dice.choice(all_rules())):
                    due = due_standing(program, own, other)
                    self.assertIs(is_standing(program, own, other), due, (own.mode, other))
                    found[due] += 1
        self.assertTrue(min(found.values()) > 1000, found)
