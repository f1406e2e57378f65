"""Points 49 and 50: desks."""

import random

from tests.cases import ErrorCase, NO_BOUNDS, deep_values
from tests.made import made_program
from tests.samples import COPY, ODD_VALUES, WORDS, example, nested, say
from toldonward.books import Book
from toldonward.desk import Desk
from toldonward.errors import (InvalidBound, InvalidKind, InvalidPath, InvalidProgram, LimitExceeded, NothingToRedo,
                               NothingToUndo)
from toldonward.judge import KINDS
from toldonward.programs import Program
from toldonward.rules import Rule, all_rules
from toldonward.verdicts import Verdict

PUSH = Rule("push", True, "later")
LEVEL = Rule("level", True, "later")
NO_LIMITS = [value for value in NO_BOUNDS if value != 2001] + [10001, 20000]
NO_PATHS = [(), ("effects",), ("effects", 0), ("effects", 1, 0), ("effects", 0, 3), ("effects", 0, -1), ("derived", 0, 2),
            ("sources", 0, 0), ["effects", 0, 0], ("effects", False, 0), ("effects", 0, 0, 0, 0), "e", None, 0, {}, [],
            ("effects", "0", 0), ("effects", None, 0), ("effects", 0, 0.5)]
NO_ROWS = [("peek", "q", "x"), ("give", "x"), ("read", "s"), ("read", "s", "x", "x"), ("read", "s", "X"), (), None, [],
           ["read", "s", "x"], "read s x", ("if", "x", "on", (), None), ("if", "x", "on", (("give", "x"),), ()), {}, 5, True]
FIRST, PEEK = ("effects", 0, 0), ("peek", "s", "x")
OTHER = Program(WORDS, ("s",), (), (("e", say("s")),))


def desk(program=None, rules=(PUSH, LEVEL), **named):
    return Desk(program or example(), rules, **named)


def state(own):
    """What a desk shows, with all that undo and redo lead to; it is as it was behind that."""
    earlier = later = 0
    programs = [own.current]
    many = len(own)
    while len(own):
        own.undo()
        programs.insert(0, own.current)
        earlier += 1
    for _ in range(earlier):
        own.redo()
    while True:
        try:
            own.redo()
        except NothingToRedo:
            break
        programs.append(own.current)
        later += 1
    for _ in range(later):
        own.undo()
    return (programs, many, earlier, later, own.watched)


class EditTest(ErrorCase):
    def test_a_new_desk(self):
        program = example()
        own = desk(program)
        self.assertIs(own.current, program)
        self.assertEqual((own.watched, len(own)), ((), 0))
        self.assertEqual(state(own), ([program], 0, 0, 0, ()))

    def test_rows(self):
        own = desk(nested())
        for path in nested().row_paths():
            self.assertEqual(own[path], nested().row_at(path))

    def test_an_edit_of_a_row(self):
        own = desk()
        own[FIRST] = PEEK
        self.assertEqual(own.current, example().with_row(FIRST, PEEK))
        self.assertEqual((own[FIRST], len(own)), (PEEK, 1))
        self.assertEqual(own.current.body("e"), (PEEK, ("read", "d", "y"), ("say", "y")))
        # A row that is put in the place of an equal one is an edit, too.
        own[FIRST] = PEEK
        self.assertEqual(len(own), 2)

    def test_an_edit_of_the_program(self):
        own = desk()
        self.assertIsNone(own.put_program(OTHER))
        self.assertIs(own.current, OTHER)
        self.assertEqual(len(own), 1)
        own.put_program(program=Program(WORDS, ("s",), (), OTHER.effects))
        self.assertEqual((own.current == OTHER, len(own)), (True, 2))
        self.assertIsNot(own.current, OTHER)

    def test_undo_and_redo_to_both_ends(self):
        own = desk()
        own[FIRST] = PEEK
        own.put_program(OTHER)
        own[("effects", 0, 1)] = ("say", "y")
        programs = [example(), example().with_row(FIRST, PEEK), OTHER, OTHER.with_row(("effects", 0, 1), ("say", "y"))]
        for place in (2, 1, 0):
            self.assertIsNone(own.undo())
            self.assertEqual((own.current, len(own)), (programs[place], place))
        self.raises(NothingToUndo, {}, own.undo)
        self.assertEqual((own.current, len(own)), (example(), 0))
        for place in (1, 2, 3):
            self.assertIsNone(own.redo())
            self.assertEqual((own.current, len(own)), (programs[place], place))
        self.raises(NothingToRedo, {}, own.redo)
        self.assertEqual((own.current, len(own)), (programs[3], 3))

    def test_a_new_edit_empties_what_can_be_done_again(self):
        for edit in (lambda own: own.put_program(OTHER), lambda own: own.put_program(own.current),
                     lambda own: own.__setitem__(FIRST, PEEK)):
            own = desk()
            own[FIRST] = ("read", "d", "x")
            own[FIRST] = ("read", "d", "z")
            own.undo()
            own.undo()
            edit(own)
            self.raises(NothingToRedo, {}, own.redo)
            self.assertEqual(len(own), 1)
            own.undo()
            self.assertEqual(own.current, example())
            own.redo()

    def test_wrong_paths(self):
        own = desk()
        own[FIRST] = PEEK
        own.put_program(example())
        own.undo()
        before = state(own)
        for path in NO_PATHS + ODD_VALUES + deep_values():
            self.raises(InvalidPath, {"path": path}, own.__getitem__, path)
            for row in (PEEK, None, ()):
                self.raises(InvalidPath, {"path": path}, own.__setitem__, path, row)
        self.assertEqual(state(own), before)

    def test_wrong_rows(self):
        own = desk()
        own[FIRST] = PEEK
        own.put_program(example())
        own.undo()
        before = state(own)
        for row in NO_ROWS + ODD_VALUES + deep_values():
            with self.assertRaises(InvalidProgram) as caught:
                own[FIRST] = row
            self.assertEqual(caught.exception.path[:3], FIRST)
        self.assertEqual(state(own), before)
        with self.assertRaises(InvalidProgram) as caught:
            own[FIRST] = ("if", "x", "on", (("say", "x"),) * 16, ())
        self.assertEqual(vars(caught.exception), {"part": "many", "path": ("effects", 0)})
        self.assertEqual(state(own), before)

    def test_a_desk_is_not_iterated_over(self):
        with self.assertRaises(TypeError):
            list(desk())

    def test_current_and_watched_are_only_read(self):
        own = desk()
        for name in ("current", "watched"):
            with self.assertRaises(AttributeError):
                setattr(own, name, ())
        self.assertEqual(state(own), ([example()], 0, 0, 0, ()))


class WatchTest(ErrorCase):
    def test_kinds_in_their_order(self):
        own = same = desk()
        own |= "long"
        own |= "mixed"
        own |= "needless"
        self.assertIs(own, same)
        self.assertEqual(own.watched, ("mixed", "needless", "long"))
        own |= "mixed"
        self.assertEqual(own.watched, ("mixed", "needless", "long"))
        for kind in KINDS:
            own |= kind
        self.assertEqual((own.watched, len(own)), (KINDS, 0))

    def test_watching_is_no_edit(self):
        own = desk()
        own[FIRST] = PEEK
        own.undo()
        own |= "twice"
        self.assertEqual(len(own), 0)
        own.redo()
        self.assertEqual((own.watched, own[FIRST]), (("twice",), PEEK))
        own.undo()
        self.assertEqual(own.watched, ("twice",))

    def test_unknown_kinds(self):
        own = desk()
        own |= "mixed"
        own[FIRST] = PEEK
        before = state(own)
        for kind in ("", "Mixed", "other", "e", "mixed ", "missing"):
            with self.assertRaises(InvalidKind) as caught:
                own |= kind
            self.assertEqual(vars(caught.exception), {"kind": kind})
            self.assertEqual(state(own), before)


class VerdictsTest(ErrorCase):
    def test_the_watched_kinds_alone(self):
        own = desk()
        self.assertEqual(own.verdicts(), [Verdict([]), Verdict([])])
        own |= "twice"
        self.assertEqual(own.verdicts(), [Verdict([("twice", "e")]), Verdict([])])
        own |= "mixed"
        own |= "long"
        self.assertEqual(own.verdicts(), [Verdict([("mixed", "e"), ("twice", "e")]), Verdict([])])
        own[FIRST] = PEEK
        self.assertEqual(own.verdicts(), [Verdict([]), Verdict([])])
        own.undo()
        self.assertEqual([bool(verdict) for verdict in own.verdicts()], [True, False])

    def test_all_rules(self):
        own = desk(rules=all_rules())
        for kind in KINDS:
            own |= kind
        self.assertEqual(own.verdicts(), [Book(example(), rule).verdict() for rule in all_rules()])
        twice = desk(rules=[PUSH, PUSH])
        twice |= "mixed"
        self.assertEqual(twice.verdicts(), [Verdict([("mixed", "e")])] * 2)

    def test_none_where_a_book_exceeds_the_limit(self):
        sizes = [len(Book(example(), rule)) for rule in all_rules()]
        for limit in range(1, max(sizes) + 1):
            own = desk(rules=all_rules(), limit=limit)
            own |= "mixed"
            self.assertEqual([verdict is None for verdict in own.verdicts()], [size > limit for size in sizes])
        # Also where nothing is watched.
        self.assertEqual(desk(limit=1).verdicts(), [None, None])

    def test_bounds_and_batches_are_those_of_the_desk(self):
        own = desk(most=1)
        for kind in KINDS:
            own |= kind
        self.assertEqual(own.verdicts(), [Verdict([("long", "")]), Verdict([])])
        both = Program(WORDS, ("s", "t"), (), (("e", (("read", "s", "x"), ("read", "t", "y"), ("say", "y"))),))
        for batches in (True, False):
            own = desk(both, batches=batches)
            own |= "twice"
            self.assertEqual(own.verdicts(), [Verdict([("twice", "e")] * batches), Verdict([])])
        # Without batches there are no more standings than 8 times 326, but more than 2000.
        cells = tuple((name, COPY) for name in "abcdg")
        own = desk(Program(WORDS, ("s", "t", "u"), cells, ()), (PUSH,), batches=False)
        self.assertEqual(own.verdicts(), [None])

    def test_lists_that_are_passed_or_returned_may_be_changed(self):
        rules = [PUSH, LEVEL]
        own = desk(rules=rules)
        own |= "mixed"
        due = [Verdict([("mixed", "e")]), Verdict([])]
        rules.clear()
        self.assertEqual(own.verdicts(), due)
        rules.append(LEVEL)
        own.verdicts().clear()
        self.assertEqual(own.verdicts(), due)
        self.assertEqual(desk(rules=tuple(rules)).verdicts(), [Verdict([])])
        self.assertEqual(rules, [LEVEL])


class AttemptTest(ErrorCase):
    EDITS = [(FIRST, PEEK), (("effects", 0, 1), ("peek", "d", "y")), (("effects", 0, 2), ("say", "x"))]

    def full(self):
        """A desk with edits to undo and to do again."""
        own = desk()
        own |= "mixed"
        own |= "missed"
        own[("effects", 0, 2)] = ("say", "x")
        own.put_program(example())
        own[FIRST] = ("read", "d", "x")
        own.undo()
        return own

    def test_what_the_verdicts_would_be(self):
        own = self.full()
        before = state(own)
        self.assertEqual(own.attempt([]), own.verdicts())
        self.assertEqual(own.attempt(self.EDITS[:1]), [Verdict([]), Verdict([])])
        self.assertEqual(own.attempt(tuple(self.EDITS[:2])), [Verdict([("missed", "e")])] * 2)
        self.assertEqual(own.attempt(edits=self.EDITS[1:2]), [Verdict([("mixed", "e"), ("missed", "e")]), Verdict([])])
        self.assertEqual(own.verdicts(), [Verdict([("mixed", "e")]), Verdict([])])
        self.assertEqual(state(own), before)

    def test_edits_come_one_after_the_other(self):
        own = self.full()
        nest = ("if", "x", "on", (("say", "x"),), ())
        edits = [(FIRST, nest), (FIRST + (0, 0), ("read", "d", "x")), (FIRST + (0, 0), ("say", "y"))]
        self.assertEqual(own.attempt(edits), [Verdict([]), Verdict([])])
        self.raises(InvalidPath, {"path": edits[1][0]}, own.attempt, edits[1:])
        self.assertEqual(edits[0], (FIRST, nest))

    def test_a_wrong_edit_at_the_first_a_middle_and_the_last_place(self):
        own = self.full()
        before = state(own)
        for place in range(4):
            for path in NO_PATHS + deep_values():
                edits = self.EDITS[:place] + [(path, ("say", "x"))] + self.EDITS[place:]
                self.raises(InvalidPath, {"path": path}, own.attempt, edits)
            for row in NO_ROWS + deep_values():
                edits = self.EDITS[:place] + [(FIRST, row)] + self.EDITS[place:] + [((), None)]
                with self.assertRaises(InvalidProgram):
                    own.attempt(tuple(edits))
            self.assertEqual(state(own), before)

    def test_none_where_a_book_exceeds_the_limit(self):
        own = desk(limit=4, rules=[PUSH])
        own |= "missed"
        before = state(own)
        self.assertEqual(own.attempt([]), [Verdict([])])
        rows = (("effects", 0, 1), ("if", "x", "on", (("read", "d", "y"),), ()))
        sizes = [len(Book(example().with_row(*rows), PUSH)), len(Book(example().with_row(FIRST, ("say", "x")), PUSH))]
        found = own.attempt([rows]) + own.attempt([(FIRST, ("say", "x"))])
        self.assertEqual([verdict is None for verdict in found], [size > 4 for size in sizes])
        self.assertEqual(state(own), before)
        self.assertEqual(desk(limit=1).attempt([(FIRST, PEEK)]), [None, None])

    def test_the_list_of_edits_stays_as_it_was(self):
        own = self.full()
        edits = list(self.EDITS)
        own.attempt(edits).clear()
        self.assertEqual(edits, self.EDITS)
        edits.clear()
        self.assertEqual(state(own), state(self.full()))


class WrongTest(ErrorCase):
    def test_bounds(self):
        for most in NO_BOUNDS + deep_values():
            for limit in (1, 0, None, most):
                self.raises(InvalidBound, {"value": most}, Desk, example(), [PUSH], most=most, limit=limit)
        for limit in NO_LIMITS + deep_values():
            self.raises(InvalidBound, {"value": limit}, Desk, example(), [PUSH], limit=limit)
        for most, limit in ((1, 1), (2000, 10000)):
            desk(most=most, limit=limit)
        self.assertRaises(TypeError, Desk, example(), [PUSH], True)
        own = Desk(program=example(), rules=[PUSH], batches=True, most=200, limit=2000)
        self.assertEqual(own.verdicts(), [Verdict([])])


class ManyDesksTest(ErrorCase):
    def test_histories(self):
        """A second desk: the list of all programs, and the place of the current one."""
        dice = random.Random(171)
        counts = dict.fromkeys(("row", "refused", "program", "undo", "redo", "watch", "attempt", "none"), 0)
        for _ in range(60):
            programs, at, watched = [made_program(dice, words=2, sources=2, derived=2, effects=2)], 0, []
            rules = dice.sample(all_rules(), dice.randint(1, 3))
            named = {"batches": dice.random() < 0.5, "most": 12, "limit": dice.choice((3, 20))}
            own = Desk(programs[0], rules, **named)
            for _ in range(25):
                form = dice.choice(("row", "row", "row", "program", "undo", "undo", "redo", "redo", "watch", "attempt"))
                if form == "row":
                    path, row = self.edit(dice, programs[at])
                    due = self.edited(programs[at], [(path, row)])
                    if due is None:
                        self.assertRaises((InvalidPath, InvalidProgram), own.__setitem__, path, row)
                        form = "refused"
                    else:
                        own[path] = row
                        programs, at = programs[:at + 1] + [due], at + 1
                elif form == "program":
                    due = made_program(dice, words=2, sources=2, derived=2, effects=2)
                    own.put_program(due)
                    programs, at = programs[:at + 1] + [due], at + 1
                elif form == "undo":
                    self.turn(own.undo, NothingToUndo, at > 0)
                    at = max(at - 1, 0)
                elif form == "redo":
                    self.turn(own.redo, NothingToRedo, at + 1 < len(programs))
                    at = min(at + 1, len(programs) - 1)
                elif form == "watch":
                    watched.append(dice.choice(KINDS))
                    own |= watched[-1]
                else:
                    edits = [self.edit(dice, programs[at]) for _ in range(dice.randint(0, 2))]
                    due = self.edited(programs[at], edits)
                    if due is None:
                        self.assertRaises((InvalidPath, InvalidProgram), own.attempt, edits)
                    else:
                        self.assertEqual(own.attempt(edits), self.due_verdicts(due, rules, named, watched))
                counts[form] += 1
                self.assertEqual((own.current, len(own)), (programs[at], at))
                self.assertEqual(own.watched, tuple(kind for kind in KINDS if kind in watched))
            self.assertEqual(own.verdicts(), self.due_verdicts(programs[at], rules, named, watched))
            counts["none"] += None in own.verdicts()
        self.assertTrue(min(counts.values()) > 10, counts)

    def turn(self, call, error, is_right):
        if is_right:
            self.assertIsNone(call())
        else:
            self.assertRaises(error, call)

    def edit(self, dice, program):
        paths = program.row_paths() + [("effects", 0, 40)]
        rows = [program.row_at(path) for path in program.row_paths()] + [("say", "x"), ("give", "x"), ("put", "x", "on"), ()]
        return dice.choice(paths), dice.choice(rows)

    def edited(self, program, edits):
        """The program behind the edits, or None if one of them is refused."""
        for path, row in edits:
            try:
                program = program.with_row(path, row)
            except (InvalidPath, InvalidProgram):
                return None
        return program

    def due_verdicts(self, program, rules, named, watched):
        found = []
        for rule in rules:
            try:
                pairs = Book(program, rule, **named).faults()
            except LimitExceeded:
                found.append(None)
                continue
            found.append(Verdict([pair for pair in pairs if pair[0] in watched]))
        return found
