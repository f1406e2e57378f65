"""Points 46 to 48: changes that heal by hand, and their errors."""

import itertools

from tests.cases import ErrorCase, NO_BOUNDS, deep_values
from tests.samples import COPY, NESTED_PATHS, ODD_VALUES, WORDS, example, give, nested, say
from toldonward.books import Book
from toldonward.errors import InvalidBound, InvalidChange, InvalidKind, InvalidProgram, LimitExceeded
from toldonward.heals import heals, is_change, rules_free, with_changes
from toldonward.judge import KINDS
from toldonward.programs import Program
from toldonward.rules import Rule, all_rules

PUSH = Rule("push", True, "later")
LEVEL = Rule("level", True, "later")
PEEK = ("peek", ("effects", 0, 0))
EARLY = ("early", ("effects", 0, 1))
NO_LIMITS = [value for value in NO_BOUNDS if value != 2001] + [10001, 20000]
NO_CHANGES = [
    ("peek", ("derived", 0, 0)), ("peek", ("derived", 0, 1)), ("early", ("derived", 0, 1)), ("early", ("effects", 0, 2)),
    ("peek", ("effects", 0, 2)), ("peek", ("effects", 0, 3)), ("peek", ("effects", 1, 0)), ("early", ("derived", 1, 0)),
    ("early", ("sources", 0, 0)), ("peek", ("sources", 0)), ("early", ("sources", 0)), ("early", "s"), ("peek", "e"),
    ("peek", ["effects", 0, 0]), ["peek", ("effects", 0, 0)], ("peek", "effects", 0, 0), ("peek", ("effects", 0, -1)),
    ("peek", ("effects", False, 0)), ("early", ("effects", 0, True)), ("early", ("effects", 0, False)), ("peek",), (),
    ("early", ("effects", 0)), ("early", ("derived", 0)), ("early", ()), ("early", None), (None, ("effects", 0, 0)),
    ("Peek", ("effects", 0, 0)), ("read", ("effects", 0, 0)), ("late", ("effects", 0, 0)), (True, ("effects", 0, 0)),
    ("peek", ("effects", 0, 0), None), ("peek", ("effects", 0, 0, 0)), ("peek", ("effects", 0, 0, 0, 0)),
    (["peek"], ("effects", 0, 0)), ("peek", (("effects", 0, 0),)), ("peek", ("effects", "0", 0)), "peek", "ab",
    ("peek", {"effects": 0}), ({}, ("effects", 0, 0)), ("", ("effects", 0, 0)), ("early", ("effects", None, 0)),
]


def with_body(rows):
    return Program(WORDS, ("s", "t"), (("d", COPY),), (("e", rows),))


class ChangeTest(ErrorCase):
    def test_each_form(self):
        for change in (PEEK, ("peek", ("effects", 0, 1)), ("early", ("effects", 0, 0)), EARLY, ("early", ("derived", 0, 0))):
            self.assertIs(is_change(example(), change), True)
        self.assertIs(is_change(program=example(), value=PEEK), True)

    def test_values_that_are_none(self):
        for value in NO_CHANGES + ODD_VALUES + deep_values():
            self.assertIs(is_change(example(), value), False, value)
        for value in deep_values():
            for change in (("peek", value), (value, ("effects", 0, 0)), ("early", ("effects", 0, value))):
                self.assertIs(is_change(example(), change), False)

    def test_rows_inside_if_rows(self):
        program = nested()
        reads = [path for path in NESTED_PATHS if program.row_at(path)[0] == "read"]
        self.assertEqual(reads, [("derived", 0, 0), ("derived", 0, 1, 0, 1, 1, 0), ("derived", 1, 1)])
        for path in NESTED_PATHS:
            self.assertIs(is_change(program, ("early", path)), path in reads)
            # All reads of this program stand in derived cells; the peeks of its effects are none.
            self.assertIs(is_change(program, ("peek", path)), False)

    def test_peek_rows_are_no_read_rows(self):
        program = with_body((("peek", "s", "x"), ("if", "x", "on", (("read", "t", "y"),), (("read", "d", "y"),))))
        found = [path for path in program.row_paths() if is_change(program, ("peek", path))]
        self.assertEqual(found, [("effects", 0, 1, 0, 0), ("effects", 0, 1, 1, 0)])


class WithChangesTest(ErrorCase):
    def test_the_example(self):
        self.assertEqual(with_changes(example(), [EARLY]).body("e"),
                         (("read", "d", "a"), ("read", "s", "x"), ("read", "d", "y"), ("say", "y")))
        self.assertEqual(with_changes(example(), (PEEK,)).body("e"),
                         (("peek", "s", "x"), ("read", "d", "y"), ("say", "y")))

    def test_no_changes(self):
        for changes in ([], ()):
            self.assertEqual(with_changes(nested(), changes), nested())

    def test_several_changes_of_one_body(self):
        # All paths are those ahead of the changes; the early rows stand in the order of the changes.
        changes = [("early", ("effects", 0, 1)), ("peek", ("effects", 0, 1)), ("early", ("effects", 0, 0))]
        self.assertEqual(with_changes(example(), changes).body("e"), (
            ("read", "d", "a"), ("read", "s", "a"), ("read", "s", "x"), ("peek", "d", "y"), ("say", "y")))
        self.assertEqual(with_changes(example(), changes[::-1]).body("e"), (
            ("read", "s", "a"), ("read", "d", "a"), ("read", "s", "x"), ("peek", "d", "y"), ("say", "y")))

    def test_one_row_in_both_ways(self):
        for changes in itertools.permutations((PEEK, ("early", ("effects", 0, 0)))):
            self.assertEqual(with_changes(example(), changes).body("e"),
                             (("read", "s", "a"), ("peek", "s", "x"), ("read", "d", "y"), ("say", "y")))

    def test_several_bodies(self):
        found = with_changes(example(), [EARLY, ("early", ("derived", 0, 0)), PEEK])
        self.assertEqual(found.derived, (("d", (("read", "s", "a"), ("read", "s", "x"), ("give", "x"))),))
        self.assertEqual(found.body("e"), (("read", "d", "a"), ("peek", "s", "x"), ("read", "d", "y"), ("say", "y")))

    def test_rows_inside_if_rows(self):
        found = with_changes(nested(), [("early", ("derived", 0, 1, 0, 1, 1, 0)), ("early", ("derived", 1, 1))])
        self.assertEqual(found.body("d"), (("read", "t", "a"),) + nested().body("d"))
        self.assertEqual(found.body("dd"), (("read", "d", "a"),) + nested().body("dd"))
        rows = (("if", "x", "on", (("put", "y", "on"), ("read", "d", "b")), (("if", "x", "off", (), (("read", "t", "a"),)),)),)
        found = with_changes(with_body(rows), [("peek", ("effects", 0, 0, 0, 1)), ("peek", ("effects", 0, 0, 1, 0, 1, 0)),
                                               ("early", ("effects", 0, 0, 0, 1))])
        self.assertEqual(found.body("e"), (
            ("read", "d", "c"),
            ("if", "x", "on", (("put", "y", "on"), ("peek", "d", "b")), (("if", "x", "off", (), (("peek", "t", "a"),)),))))

    def test_the_first_letter_that_no_row_names_as_a_slot(self):
        read = ("read", "s", "x")
        for rows, letter in (
                ((read,), "a"), ((read, ("say", "a")), "b"), ((read, ("say", "b"), ("say", "a")), "c"),
                ((read, ("put", "a", "on"), ("peek", "d", "b"), ("write", "t", "c"), ("if", "d", "on", (), ())), "e"),
                ((read, ("if", "x", "on", (("say", "a"),), (("if", "x", "on", (("say", "b"),), (("say", "c"),)),))), "d"),
                ((("read", "s", "a"),), "b"), ((read, ("say", "aa"), ("say", "ab")), "a"), ((read, ("say", "b")), "a")):
            found = with_changes(with_body(rows), [("early", ("effects", 0, 0))])
            self.assertEqual(found.body("e"), (("read", "s", letter),) + rows)
        # Words, cells and names of effects are no slots.
        program = Program(("a", "b"), ("c",), (), (("e", (("read", "c", "d"), ("put", "d", "a"), ("write", "c", "d"))),))
        self.assertEqual(with_changes(program, [("early", ("effects", 0, 0))]).body("e")[0], ("read", "c", "a"))

    def test_fifteen_letters_are_taken(self):
        rows = tuple(("read", "s", letter) for letter in "abcdefghijklmno")
        self.assertEqual(with_changes(with_body(rows), [("early", ("effects", 0, 3))]).body("e"), (("read", "s", "p"),) + rows)

    def test_bodies_of_fifteen_and_sixteen_rows(self):
        fifteen, sixteen = ((("read", "s", "x"),) * many for many in (15, 16))
        own = ("early", ("effects", 0, 0))
        self.assertEqual(len(with_changes(with_body(fifteen), [own]).body("e")), 16)
        self.assertEqual(with_changes(with_body(sixteen), [("peek", ("effects", 0, 15))]).body("e")[15], ("peek", "s", "x"))
        for rows, changes in ((sixteen, [own]), (fifteen, [own, ("early", ("effects", 0, 14))]),
                              ((("if", "x", "on", fifteen, ()),), [("early", ("effects", 0, 0, 0, 7))])):
            with self.assertRaises(InvalidProgram) as caught:
                with_changes(with_body(rows), changes)
            self.assertEqual(vars(caught.exception), {"part": "many", "path": ("effects", 0)})

    def test_the_first_body_with_too_many_rows(self):
        full = (("read", "s", "x"),) * 16
        program = Program(WORDS, ("s",), (("d", COPY), ("c", full)), (("e", full), ("f", full)))
        early = {body: ("early", body + (0,)) for body in (("derived", 0), ("derived", 1), ("effects", 0), ("effects", 1))}
        for many in (1, 2, 3, 4):
            for bodies in itertools.permutations(early, many):
                wrong = [body for body in bodies if body != ("derived", 0)]
                if not wrong:
                    with_changes(program, [early[body] for body in bodies])
                    continue
                with self.assertRaises(InvalidProgram) as caught:
                    with_changes(program, [early[body] for body in bodies])
                self.assertEqual(vars(caught.exception), {"part": "many", "path": min(wrong)})

    def test_wrong_changes(self):
        full = Program(WORDS, ("s",), (("d", (("read", "s", "x"),) * 16),), example().effects)
        many = ("early", ("derived", 0, 0))
        for value in NO_CHANGES + ODD_VALUES + deep_values():
            if is_change(full, value):
                continue
            for index, changes in ((0, [value]), (1, [many, value]), (0, [value, many, many]), (2, [many, PEEK, value, value])):
                for made in (changes, tuple(changes)):
                    with self.assertRaises(InvalidChange) as caught:
                        with_changes(full, made)
                    self.assertEqual(vars(caught.exception), {"index": index})

    def test_a_change_twice(self):
        for changes, index in (([PEEK, PEEK], 1), ([PEEK, EARLY, PEEK, EARLY], 2), ((EARLY, PEEK, None, PEEK), 2),
                               ([EARLY] * 3, 1)):
            with self.assertRaises(InvalidChange) as caught:
                with_changes(example(), changes)
            self.assertEqual(caught.exception.index, index)

    def test_the_program_stays_as_it_was(self):
        program = nested()
        before = repr(vars(program))
        changes = [("early", ("derived", 0, 0)), ("early", ("derived", 1, 1))]
        found = with_changes(program=program, changes=changes)
        self.assertIsNot(found, program)
        self.assertEqual((repr(vars(program)), len(changes)), (before, 2))


class HealsTest(ErrorCase):
    CANDIDATES = [PEEK, EARLY]

    def test_the_example(self):
        self.assertEqual(heals(example(), PUSH, "mixed", self.CANDIDATES), [(PEEK,), (EARLY,)])
        self.assertEqual(heals(example(), PUSH, "mixed", tuple(self.CANDIDATES[::-1])), [(EARLY,), (PEEK,)])

    def test_nothing_is_to_be_healed(self):
        for candidates in ([], (), self.CANDIDATES):
            for kind in ("through", "missed", "long"):
                self.assertEqual(heals(example(), PUSH, kind, candidates), [()])
            self.assertEqual(heals(example(), LEVEL, "mixed", candidates), [()])

    def test_none_heals(self):
        self.assertEqual(heals(example(), PUSH, "mixed", []), [])
        self.assertEqual(heals(example(), PUSH, "mixed", [("early", ("effects", 0, 0)), ("early", ("derived", 0, 0))]), [])
        # Two are needed: e peeks and reads s behind.
        self.assertEqual(heals(example(), PUSH, "needless", [EARLY]), [])

    def test_no_fault_of_another_kind_may_come(self):
        # With a peek of d there is no "twice" any more, but then d can be missed.
        peek = ("peek", ("effects", 0, 1))
        program = with_changes(example(), [peek])
        self.assertTrue(Book(program, PUSH).is_free("twice"))
        self.assertFalse(Book(program, PUSH).is_free("missed"))
        self.assertEqual(heals(example(), PUSH, "twice", [peek]), [])
        self.assertEqual(heals(example(), PUSH, "twice", [peek, PEEK]), [(PEEK,)])

    def test_a_kind_that_was_there_may_stay(self):
        # The early read heals "mixed", and "twice" and "needless" are there as before.
        behind = Book(with_changes(example(), [EARLY]), PUSH)
        self.assertEqual([behind.is_free(kind) for kind in ("mixed", "twice", "needless")], [True, False, False])

    def several_effects(self, many):
        """Each effect has a derived cell of its own, so each one has to be healed."""
        pairs = list(zip("efgh", "abcd"))[:many]
        derived = tuple((cell, COPY) for _, cell in pairs)
        return Program(WORDS, ("s",), derived, tuple(
            (name, (("read", "s", "x"), ("read", cell, "y"), ("say", "y"))) for name, cell in pairs))

    def test_sets_of_two_and_three_in_their_order(self):
        program = self.several_effects(3)
        candidates = [("early", ("effects", 2, 1)), ("early", ("effects", 0, 1)), ("early", ("derived", 0, 0)),
                      ("early", ("effects", 1, 1)), ("peek", ("effects", 0, 0))]
        found = heals(program, PUSH, "mixed", candidates)
        for changes in found:
            self.assertTrue(Book(with_changes(program, changes), PUSH).is_free("mixed"))
        self.assertEqual(found, self.by_hand(program, "mixed", candidates))
        self.assertTrue(len(found) > 1 and {len(changes) for changes in found} == {3}, found)
        two = self.several_effects(2)
        own = [("peek", ("effects", 1, 0)), ("early", ("effects", 0, 1)), ("peek", ("effects", 0, 0)), ("early", ("effects", 1, 1))]
        found = heals(two, PUSH, "mixed", own)
        self.assertEqual(found, self.by_hand(two, "mixed", own))
        self.assertTrue(len(found) > 1 and {len(changes) for changes in found} == {2}, found)

    def by_hand(self, program, kind, candidates):
        """All healing sets of the fewest candidates, by their definition."""
        before = Book(program, PUSH)
        for many in range(4):
            found = []
            for changes in itertools.combinations(candidates, many):
                behind = Book(with_changes(program, changes), PUSH)
                new = [own for own in KINDS if before.is_free(own) and not behind.is_free(own)]
                if behind.is_free(kind) and not new:
                    found.append(changes)
            if found:
                return found
        return []

    def test_at_most_three(self):
        program = self.several_effects(3)
        three = [("peek", ("effects", place, 0)) for place in range(3)]
        self.assertEqual(heals(program, PUSH, "mixed", three), [tuple(three)])
        four = self.several_effects(4)
        own = three + [("peek", ("effects", 3, 0))]
        self.assertEqual(heals(four, PUSH, "mixed", own), [])
        self.assertTrue(Book(with_changes(four, own), PUSH).is_free("mixed"))

    def test_a_set_that_makes_a_body_too_long_heals_nothing(self):
        rows = (("read", "s", "x"), ("read", "d", "y"), ("say", "y"))
        for many, due in ((12, [(EARLY,)]), (13, [])):
            full = Program(WORDS, ("s",), (("d", COPY),), (("e", rows + (("put", "z", "on"),) * many),))
            self.assertEqual(heals(full, PUSH, "mixed", [EARLY]), due)
        self.assertEqual(heals(full, PUSH, "mixed", [EARLY, PEEK]), [(PEEK,)])

    def eight(self):
        """A program with many candidates, none of which heals."""
        rows = tuple(("read", "s", letter) for letter in "abcdefgh") + (("read", "d", "y"), ("say", "y"))
        return with_body(rows), [("early", ("effects", 0, place)) for place in range(9)]

    def test_eight_candidates_and_a_ninth(self):
        program, candidates = self.eight()
        self.assertEqual(heals(program, PUSH, "mixed", candidates[:8]), [])
        for more in (candidates, candidates + [None], candidates[:8] + [None], candidates[:8] * 2, [*candidates[:8], {}]):
            with self.assertRaises(InvalidChange) as caught:
                heals(program, PUSH, "mixed", more)
            self.assertEqual(vars(caught.exception), {"index": 8})
        with self.assertRaises(InvalidChange) as caught:
            heals(program, PUSH, "through", [None] + candidates)
        self.assertEqual(caught.exception.index, 0)

    def test_a_candidate_twice(self):
        for candidates, index in (([PEEK, PEEK], 1), ((EARLY, PEEK, EARLY), 2), ([PEEK] * 9, 1), ([EARLY, None, EARLY], 1)):
            for kind in ("mixed", "through"):
                with self.assertRaises(InvalidChange) as caught:
                    heals(example(), PUSH, kind, candidates)
                self.assertEqual(caught.exception.index, index)

    def test_errors_in_their_order(self):
        for most in NO_BOUNDS + deep_values():
            for limit, kind, candidates in itertools.product((1, 0), ("mixed", "other"), ([], [None])):
                self.raises(InvalidBound, {"value": most}, heals, example(), PUSH, kind, candidates, most=most, limit=limit)
        for limit in NO_LIMITS + deep_values():
            for kind, candidates in itertools.product(("mixed", "other"), ([], [None])):
                self.raises(InvalidBound, {"value": limit}, heals, example(), PUSH, kind, candidates, limit=limit)
        for kind in ("", "Mixed", "other", "e", "peek"):
            for candidates in ([], [None], [PEEK, PEEK]):
                self.raises(InvalidKind, {"kind": kind}, heals, example(), PUSH, kind, candidates, limit=1)
        for value in NO_CHANGES + ODD_VALUES + deep_values():
            with self.assertRaises(InvalidChange) as caught:
                heals(example(), PUSH, "mixed", [PEEK, value], limit=1)
            self.assertEqual(vars(caught.exception), {"index": 1})
        self.raises(LimitExceeded, {"limit": 1}, heals, example(), PUSH, "mixed", self.CANDIDATES, limit=1)
        self.assertRaises(TypeError, heals, example(), PUSH, "mixed", [], True)

    def test_limits(self):
        # The book of the program has four standings; only sets that are no larger than those returned count.
        self.assertEqual(heals(example(), PUSH, "through", self.CANDIDATES, limit=4), [()])
        self.raises(LimitExceeded, {"limit": 3}, heals, example(), PUSH, "through", self.CANDIDATES, limit=3)
        sizes = [len(Book(with_changes(example(), changes), PUSH)) for changes in ((PEEK,), (EARLY,), (PEEK, EARLY))]
        need = max(4, *sizes[:2])
        self.assertEqual(heals(example(), PUSH, "mixed", self.CANDIDATES, limit=need), [(PEEK,), (EARLY,)])

    def test_a_set_behind_one_that_heals_exceeds_the_limit(self):
        # With a peek of s, f keeps words that are old: there are more standings.
        rows = (("read", "s", "x"), ("read", "t", "y"), ("say", "y"))
        program = Program(WORDS, ("s", "t"), (("d", COPY),), example().effects + (("f", rows),))
        other = ("peek", ("effects", 1, 0))
        first, second = (len(Book(with_changes(program, [change]), PUSH)) for change in (PEEK, other))
        need = max(len(Book(program, PUSH)), first)
        self.assertTrue(need < second, (need, second))
        self.assertEqual(heals(program, PUSH, "mixed", [PEEK], limit=need), [(PEEK,)])
        for candidates in ([PEEK, other], [other, PEEK]):
            self.assertEqual(heals(program, PUSH, "mixed", candidates, limit=second), [(PEEK,)])
            limit = second - 1
            self.raises(LimitExceeded, {"limit": limit}, heals, program, PUSH, "mixed", candidates, limit=limit)

    def test_batches_and_most(self):
        both = Program(WORDS, ("s", "t"), (), (("e", (("read", "s", "x"), ("read", "t", "y"), ("say", "y"))),))
        self.assertEqual(heals(both, PUSH, "twice", []), [])
        self.assertEqual(heals(both, PUSH, "twice", [], batches=False), [()])
        self.assertEqual(heals(example(), PUSH, "long", [PEEK], most=1), [(PEEK,)])
        self.assertEqual(heals(program=example(), rule=PUSH, kind="long", candidates=[PEEK], batches=True, most=2,
                               limit=2000), [()])

    def test_the_lists_stay_as_they_were(self):
        candidates = list(self.CANDIDATES)
        first = heals(example(), PUSH, "mixed", candidates)
        first.clear()
        self.assertEqual(candidates, self.CANDIDATES)
        self.assertEqual(heals(example(), PUSH, "mixed", candidates), [(PEEK,), (EARLY,)])


class RulesFreeTest(ErrorCase):
    def test_the_example(self):
        self.assertEqual(len(rules_free(example(), ["mixed"])), 8)
        self.assertEqual(rules_free(example(), ["mixed"]), [rule for rule in all_rules() if rule.mode != "push"])

    def test_kinds(self):
        self.assertEqual(rules_free(example(), []), all_rules())
        self.assertEqual(rules_free(example(), ()), all_rules())
        cut = [rule for rule in all_rules() if rule.mode != "push" and rule.cut]
        self.assertEqual(rules_free(example(), ["needless"]), cut)
        self.assertEqual(rules_free(example(), ("mixed", "needless")), cut)
        self.assertEqual(rules_free(example(), ["mixed"] * 3), rules_free(example(), ["mixed"]))
        self.assertEqual(rules_free(example(), ["through", "long"]), all_rules())
        for kinds in itertools.combinations(KINDS, 2):
            due = [rule for rule in all_rules() if all(Book(example(), rule).is_free(kind) for kind in kinds)]
            self.assertEqual(rules_free(example(), list(kinds)), due)

    def test_most_and_batches(self):
        self.assertEqual(rules_free(example(), ["long"], most=1), [rule for rule in all_rules() if rule.mode != "push"])
        both = Program(WORDS, ("s", "t"), (), (("e", (("read", "s", "x"), ("read", "t", "y"), ("say", "y"))),))
        self.assertEqual(len(rules_free(both, ["twice"])), 8)
        self.assertEqual(len(rules_free(both, ["twice"], batches=False)), 12)

    def test_errors_in_their_order(self):
        for most in NO_BOUNDS + deep_values():
            for limit, kinds in itertools.product((1, 0), ([], ["other"])):
                self.raises(InvalidBound, {"value": most}, rules_free, example(), kinds, most=most, limit=limit)
        for limit in NO_LIMITS + deep_values():
            for kinds in ([], ["other"]):
                self.raises(InvalidBound, {"value": limit}, rules_free, example(), kinds, limit=limit)
        for kind in ("", "Mixed", "other", "e"):
            for kinds in ([kind], (kind, "another"), ["mixed", kind], ["mixed", "mixed", kind, ""]):
                self.raises(InvalidKind, {"kind": kind}, rules_free, example(), kinds, limit=1)
        for kinds in ([], ["mixed"], ["long"]):
            self.raises(LimitExceeded, {"limit": 1}, rules_free, example(), kinds, limit=1)

    def test_limits(self):
        most = max(len(Book(example(), rule)) for rule in all_rules())
        for kinds in ([], ["mixed"]):
            self.assertEqual(rules_free(example(), kinds, limit=most), rules_free(program=example(), kinds=kinds))
            limit = most - 1
            self.raises(LimitExceeded, {"limit": limit}, rules_free, example(), kinds, limit=limit)

    def test_derived_cells_may_be_changed(self):
        # d reads s ahead of c, so it is told an old word of c: "through". An early read of c heals it.
        both = (("read", "s", "x"), ("read", "c", "x"), ("give", "x"))
        program = Program(WORDS, ("s",), (("c", give("s")), ("d", both)), (("e", say("d")),))
        early = ("early", ("derived", 1, 1))
        self.assertEqual(heals(program, PUSH, "through", [("early", ("derived", 1, 0)), early]), [(early,)])
