"""Points 1 to 3 over the whole package: the interface, what is imported, the same answers always, no deep calls."""

import copy
import importlib
import inspect
import os
import pathlib
import subprocess
import sys
import unittest

from tests.answers import all_answers
from tests.cases import deep_values
from tests.samples import WORDS, example, nested
from tests.test_books import HIGH, LOW
from tests.test_spreading import endless
from toldonward.alike import classes, difference, parting
from toldonward.books import Book, is_closed
from toldonward.counting import costs, most_runs, never_done
from toldonward.desk import Desk
from toldonward.errors import InvalidProgram, LimitExceeded, ToldError, TooManyRuns
from toldonward.heals import heals, is_change, rules_free, with_changes
from toldonward.plain import plain_begin, plain_difference
from toldonward.programs import Program
from toldonward.rules import Rule, all_rules
from toldonward.standings import is_deed, is_standing
from toldonward.texts import parse_program

ROOT = pathlib.Path(__file__).resolve().parent.parent

# The interface: a module, then its functions and classes with their methods, as the document writes them.
INTERFACE = """
programs
Program(words, sources, derived, effects)
Program.cells(self)
Program.derived_names(self)
Program.effect_names(self)
Program.body(self, name)
Program.row_paths(self)
Program.row_at(self, path)
Program.with_row(self, path, row)
truth
true_words(program, words)
true_word(program, words, cell)
true_run(program, words, name)
rules
Rule(mode, cut, inner)
all_rules()
standings
is_standing(program, rule, value)
is_deed(program, value)
deeds(program, *, batches=True)
reasons
telling(program, words, name)
is_reason(program, words, name, value)
is_lever(program, words, name, value)
lever_words(program, words, name, sources)
least_reasons(program, words, name)
least_levers(program, words, name)
deciding_sources(program, words, name)
certainty(program, words, name, sources)
shares(program, words, name)
why
reached(program, words, name)
reasons_within(program, words, name)
kept_reach(program, rule, standing, name)
wasted(program, before, events)
steering(program, words, name, due)
spreading
begin(program, rule, words, *, most=200)
step(program, rule, standing, deed, *, most=200)
judge
faults(program, before, events)
runs_of(events)
live
Pack(program)
Pack.writes(self)
Live(program, rule, words=None, *, most=200, standing=None)
Live.set_bound(self, value)
Live.write(self, source, word)
Live.write_pack(self, pack)
Live.read(self, cell)
Live.perform(self, deed)
Live.full_log(self)
Live.standing(self)
Live.last_events(self)
Live.deeds_done(self)
Live.fork(self)
Live.undo(self)
texts
format_program(program)
parse_program(text)
format_deeds(deeds)
parse_deeds(text)
books
Book(program, rule, *, batches=True, most=200, limit=2000)
Book.moves(self)
Book.starts(self)
Book.standings(self)
Book.least_run(self, standing)
Book.follow(self, standing, deed)
Book.faults(self)
Book.least_fault(self, kind, name)
Book.is_free(self, kind)
Book.verdict(self)
Book.way(self, first, second)
is_closed(program, rule, value, *, batches=True, most=200)
verdicts
Verdict(pairs)
Verdict.pairs(self)
Verdict.kinds(self)
Verdict.only(self, kinds)
alike
difference(first, second, *, says_only=False, batches=True, most=200, limit=5000)
alike(first, second, *, says_only=False, batches=True, most=200, limit=5000)
parting(book, first, second)
classes(book)
plain
plain_begin(program, words, *, most=200)
plain_step(program, standing, deed, *, most=200)
plain_difference(program, rule, *, batches=True, most=200, limit=5000)
is_plain(program, rule, *, batches=True, most=200, limit=5000)
counting
most_runs(book, name)
never_done(book)
costs(program, run, *, most=200)
heals
is_change(program, value)
with_changes(program, changes)
heals(program, rule, kind, candidates, *, batches=True, most=200, limit=2000)
rules_free(program, kinds, *, batches=True, most=200, limit=2000)
desk
Desk(program, rules, *, batches=True, most=200, limit=2000)
Desk.put_program(self, program)
Desk.undo(self)
Desk.redo(self)
Desk.verdicts(self)
Desk.attempt(self, edits)
"""

# Methods that are used by signs, and properties.
SIGNS = {
    "programs.Program": ["__eq__"], "rules.Rule": ["__eq__"], "live.Pack": ["__setitem__", "__len__", "__contains__"],
    "live.Live": ["__setitem__", "__len__", "bound"], "books.Book": ["__len__", "__contains__"],
    "verdicts.Verdict": ["__or__", "__and__", "__sub__", "__eq__", "__len__", "__contains__"],
    "desk.Desk": ["__ior__", "__getitem__", "__setitem__", "__len__", "current", "watched"],
}


class InterfaceTest(unittest.TestCase):
    def test_signatures(self):
        module = None
        for line in INTERFACE.strip().split("\n"):
            if "(" not in line:
                module = importlib.import_module("toldonward." + line)
                continue
            name, _, rest = line.partition("(")
            owner, _, method = name.rpartition(".")
            found = vars(getattr(module, owner))[method] if owner else getattr(module, name)
            self.assertEqual(str(inspect.signature(found)), "(" + rest, line)
            self.assertEqual(found.__module__, module.__name__)

    def test_signs_and_properties(self):
        for name, methods in SIGNS.items():
            module, _, own = name.partition(".")
            found = getattr(importlib.import_module("toldonward." + module), own)
            self.assertLessEqual(set(methods), set(vars(found)))

    def test_attributes(self):
        book = Book(example(), Rule("push", True, "later"), batches=False, most=5, limit=6)
        self.assertEqual([getattr(book, name) for name in ("batches", "most", "limit")], [False, 5, 6])
        desk = Desk(example(), all_rules())
        self.assertEqual((desk.current, desk.watched), (example(), ()))


class ProcessTest(unittest.TestCase):
    def run_python(self, *arguments, seed="0"):
        told = dict(os.environ, PYTHONHASHSEED=seed, PYTHONPATH=str(ROOT), PYTHONDONTWRITEBYTECODE="1")
        done = subprocess.run([sys.executable, *arguments], cwd=ROOT, env=told, capture_output=True, text=True, check=True)
        return done.stdout

    def test_what_is_imported(self):
        names = sorted(path.stem for path in (ROOT / "toldonward").glob("*.py") if path.stem != "__init__")
        script = "import sys\nbefore = set(sys.modules)\n" + "".join(
            "import toldonward." + name + "\n" for name in names) + "print(*sorted(set(sys.modules) - before))"
        found = self.run_python("-c", script).split()
        self.assertEqual(set(found) - {"math"}, {"toldonward"} | {"toldonward." + name for name in names})

    def test_the_same_answers_in_another_order_and_in_new_processes(self):
        due = all_answers()
        self.assertTrue(len(due) > 10000 and "LimitExceeded" in due and "TooManyRuns" in due, len(due))
        self.assertEqual(all_answers(backwards=True), due)
        self.assertEqual(all_answers(), due)
        for seed in ("1", "77"):
            self.assertEqual(self.run_python("-m", "tests.answers", seed=seed), due + "\n")
        self.assertEqual(self.run_python("-m", "tests.answers", "backwards", seed="5"), due + "\n")


class DeepCallsTest(unittest.TestCase):
    def setUp(self):
        self.limit = sys.getrecursionlimit()
        sys.setrecursionlimit(len(inspect.stack()) + 250)

    def tearDown(self):
        sys.setrecursionlimit(self.limit)

    def test_the_longest_calls(self):
        program = endless()
        for rule in all_rules():
            for call in (lambda: Book(program, rule, most=100), lambda: plain_difference(program, rule, most=100),
                         lambda: difference((program, rule), (program, Rule("push", True, "once")), most=100),
                         lambda: is_closed(program, rule, [], most=100)):
                try:
                    call()
                except (TooManyRuns, LimitExceeded):
                    pass
        self.assertEqual(costs(program, (("off", "on", "off"), ()), most=2000), [None] * 12)
        self.assertRaises(TooManyRuns, plain_begin, program, ("off", "off", "off"), most=2000)

    def test_deep_if_rows_in_a_text(self):
        text = "words off on\nsources s\neffect e\n" + "if x on\n" * 20000 + "else\nend\n" * 20000
        self.assertRaises(InvalidProgram, parse_program, text)

    def test_long_runs(self):
        # The least way through all orders of the readers has many deeds.
        cells = tuple((name, (("read", "s", "x"), ("give", "x"))) for name in "abcdgh")
        program = Program(WORDS, ("s",), cells, ())
        book = Book(program, Rule("push", True, "later"), limit=5000)
        last = book.standings()[-1]
        self.assertEqual(len(book.least_run(last)[1]), 6)
        self.assertIsNotNone(book.way(book.standings()[0], last))
        self.assertEqual(len(classes(book)), 2)
        self.assertIsNone(parting(book, book.standings()[0], book.standings()[2]))

    def test_deep_values(self):
        book = Book(example(), Rule("push", True, "later"))
        desk = Desk(example(), [book.rule])
        for value in deep_values():
            for found in (is_standing(example(), book.rule, value), is_deed(example(), value), value in book,
                          is_change(example(), value), is_closed(example(), book.rule, value)):
                self.assertIs(found, False)
            for call in (lambda: book.follow(value, value), lambda: book.follow(LOW, value), lambda: book.way(LOW, value),
                         lambda: desk[value], lambda: desk.attempt([(value, value)]), lambda: most_runs(book, value),
                         lambda: desk.attempt([(("effects", 0, 0), value)]), lambda: with_changes(example(), [value]),
                         lambda: heals(example(), book.rule, "mixed", [value]), lambda: parting(book, LOW, value),
                         lambda: costs(example(), (value, (value,))), lambda: costs(example(), (("off",), (value,)))):
                self.assertRaises(ToldError, call)


class ArgumentsTest(unittest.TestCase):
    def test_lists_that_are_passed_stay_as_they_were(self):
        rule = Rule("push", True, "later")
        book = Book(example(), rule)
        changes = [("peek", ("effects", 0, 0)), ("early", ("effects", 0, 1))]
        passed = [book.standings(), changes, ["mixed", "twice"], [(("effects", 0, 0), ("peek", "s", "x"))], [rule]]
        before = copy.deepcopy(passed[:4])
        is_closed(example(), rule, passed[0])
        with_changes(example(), changes)
        heals(example(), rule, "mixed", changes)
        rules_free(example(), passed[2])
        desk = Desk(example(), passed[4])
        desk.attempt(passed[3])
        self.assertEqual(passed[:4], before)
        self.assertEqual(len(passed[4]), 1)

    def test_lists_that_are_returned_are_new(self):
        book = Book(example(), Rule("push", True, "later"))
        for call in (book.moves, book.starts, book.standings, book.faults, lambda: never_done(book),
                     lambda: classes(book), lambda: rules_free(example(), []), lambda: book.verdict().pairs(),
                     lambda: costs(example(), (("off",), ())), Desk(nested(), [book.rule]).verdicts):
            first, second = call(), call()
            self.assertIs(type(first), list)
            self.assertIsNot(first, second)
            many = len(second)
            first.append(None)
            self.assertEqual(len(call()), many)
        self.assertIn(HIGH, book)
