"""Point 35: verdicts."""

import itertools
import random

from tests.cases import ErrorCase
from toldonward.errors import InvalidKind
from toldonward.judge import KINDS
from toldonward.verdicts import Verdict

PAIRS = [(kind, name) for kind in KINDS for name in ("", "a", "d", "e")]
NO_KINDS = ["", "Mixed", "MIXED", "mixed ", " mixed", "e", "mix", "other", "kind", "longer"]


def in_order(pairs):
    """The order of the pairs of a verdict, without duplicates."""
    return sorted(set(pairs), key=lambda pair: (KINDS.index(pair[0]), pair[1]))


class VerdictTest(ErrorCase):
    def test_pairs_in_their_order_without_duplicates(self):
        verdict = Verdict([("long", ""), ("twice", "e"), ("mixed", "e"), ("twice", "d"), ("mixed", "e")])
        self.assertEqual(verdict.pairs(), [("mixed", "e"), ("twice", "d"), ("twice", "e"), ("long", "")])
        self.assertEqual(Verdict([("needless", name) for name in ("b", "a", "ab", "zz", "c")]).pairs(),
                         [("needless", name) for name in ("a", "ab", "b", "c", "zz")])
        self.assertEqual(Verdict([]).pairs(), [])
        self.assertEqual(Verdict(()).pairs(), [])
        self.assertEqual(Verdict(pairs=(("missed", "e"), ("through", "d"))).pairs(),
                         [("through", "d"), ("missed", "e")])

    def test_kinds(self):
        self.assertEqual(Verdict([]).kinds(), [])
        self.assertEqual(Verdict([("long", ""), ("mixed", "f"), ("mixed", "e")]).kinds(), ["mixed", "long"])
        self.assertEqual(Verdict(PAIRS[::-1]).kinds(), list(KINDS))

    def test_unknown_kinds(self):
        for kind in NO_KINDS:
            self.raises(InvalidKind, {"kind": kind}, Verdict, [(kind, "e")])
            self.raises(InvalidKind, {"kind": kind}, Verdict, (("mixed", "e"), (kind, "mixed"), ("other", "e")))
            self.raises(InvalidKind, {"kind": kind}, Verdict, PAIRS + [(kind, "")])
        self.raises(InvalidKind, {"kind": "e"}, Verdict, [("e", "mixed"), ("other", "e")])

    def test_only(self):
        verdict = Verdict(PAIRS)
        self.assertEqual(verdict.only(["twice"]).pairs(), [("twice", name) for name in ("", "a", "d", "e")])
        self.assertEqual(verdict.only(("long", "mixed", "long")).kinds(), ["mixed", "long"])
        self.assertEqual(verdict.only([]).pairs(), [])
        self.assertEqual(verdict.only(list(KINDS)), verdict)
        # Other kinds are kinds that no pair has.
        self.assertEqual(verdict.only(["other", "", "e"]).pairs(), [])
        self.assertEqual(verdict.only(kinds=["other", "long"]).kinds(), ["long"])

    def test_operations(self):
        first, second = Verdict([("mixed", "e"), ("twice", "d")]), Verdict([("twice", "d"), ("long", "")])
        self.assertEqual((first | second).pairs(), [("mixed", "e"), ("twice", "d"), ("long", "")])
        self.assertEqual((first & second).pairs(), [("twice", "d")])
        self.assertEqual((first - second).pairs(), [("mixed", "e")])
        self.assertEqual((second - first).pairs(), [("long", "")])
        for found in (first | second, first & second, first - second):
            self.assertIs(type(found), Verdict)
            self.assertIsNot(found, first)

    def test_operations_of_many_verdicts(self):
        dice = random.Random(161)
        for _ in range(400):
            one, two = (dice.choices(PAIRS, k=dice.randint(0, 9)) for _ in range(2))
            first, second = Verdict(one), Verdict(tuple(two))
            self.assertEqual((first | second).pairs(), in_order(one + two))
            self.assertEqual((first & second).pairs(), in_order(set(one) & set(two)))
            self.assertEqual((first - second).pairs(), in_order(set(one) - set(two)))
            self.assertEqual(first == second, set(one) == set(two))
            self.assertEqual(first != second, set(one) != set(two))
            self.assertEqual(len(first), len(set(one)))
            self.assertEqual([pair in first for pair in PAIRS], [pair in one for pair in PAIRS])
            self.assertIs(bool(first), bool(one))
            kinds = dice.sample(KINDS, 3)
            self.assertEqual(first.only(kinds).pairs(), in_order(pair for pair in one if pair[0] in kinds))
            # The operands stay as they were.
            self.assertEqual((first.pairs(), second.pairs()), (in_order(one), in_order(two)))

    def test_equal_exactly_if_the_pairs_are_the_same(self):
        for one, two in itertools.product(itertools.combinations(PAIRS[:4], 2), repeat=2):
            self.assertIs(Verdict(one) == Verdict(two[::-1] + two), set(one) == set(two))
        self.assertIs(Verdict([]) == Verdict(()), True)
        self.assertIs(Verdict([("mixed", "e")]) == Verdict([]), False)

    def test_pairs_in_a_verdict(self):
        verdict = Verdict([("mixed", "e"), ("long", "")])
        for pair in (("mixed", "e"), ("long", "")):
            self.assertIs(pair in verdict, True)
        for pair in (("mixed", "d"), ("e", "mixed"), ("long", "e"), ("other", "e"), ("twice", "e")):
            self.assertIs(pair in verdict, False)

    def test_true_exactly_with_a_pair(self):
        self.assertTrue(Verdict([("mixed", "")]))
        self.assertFalse(Verdict([]))
        self.assertEqual((len(Verdict([])), len(Verdict([("mixed", "")] * 3))), (0, 1))

    def test_what_is_passed_or_returned_may_be_changed(self):
        pairs = [("twice", "e"), ("mixed", "e")]
        verdict = Verdict(pairs)
        self.assertEqual(pairs, [("twice", "e"), ("mixed", "e")])
        pairs.clear()
        verdict.pairs().clear()
        verdict.kinds().append("long")
        kinds = ["mixed"]
        behind = verdict.only(kinds)
        kinds.append("twice")
        self.assertEqual(verdict.pairs(), [("mixed", "e"), ("twice", "e")])
        self.assertEqual(verdict.kinds(), ["mixed", "twice"])
        self.assertEqual(behind.pairs(), [("mixed", "e")])
        together = verdict
        together |= Verdict([("long", "")])
        self.assertEqual((len(verdict), len(together)), (2, 3))
