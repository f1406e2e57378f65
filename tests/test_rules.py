"""Point 11: rules."""

import unittest

from toldonward.errors import InvalidRule
from toldonward.rules import Rule, all_rules

RIGHT = ("push", True, "later")
WRONG_WORDS = ["", "Push", "PUSH", "ONCE", "pull ", "push\n", "other", None, 0, 1, True, False, [], ["push"], ("push",),
               ("once",), {}, {"push": "once"}, ()]
NO_FLAGS = [0, 1, 2, None, "", "True", "cut", "push", [], [True], (True,), {}, ()]


class RuleTest(unittest.TestCase):
    def test_right_parts_are_kept(self):
        for mode in ("push", "pull", "level"):
            for cut in (False, True):
                for inner in ("once", "later"):
                    rule = Rule(mode, cut, inner)
                    self.assertEqual(vars(rule), {"mode": mode, "cut": cut, "inner": inner})
                    self.assertIs(rule.cut, cut)
        self.assertEqual(vars(Rule(mode="pull", cut=False, inner="once")),
                         {"mode": "pull", "cut": False, "inner": "once"})

    def part_told(self, *parts):
        with self.assertRaises(InvalidRule) as caught:
            Rule(*parts)
        return caught.exception.part

    def test_wrong_modes(self):
        for mode in WRONG_WORDS + ["once", "later"]:
            self.assertEqual(self.part_told(mode, True, "later"), "mode", mode)

    def test_wrong_flags(self):
        for cut in NO_FLAGS:
            self.assertEqual(self.part_told("push", cut, "later"), "cut", cut)

    def test_wrong_inners(self):
        for inner in WRONG_WORDS + ["push", "level", "Once", "late"]:
            self.assertEqual(self.part_told("push", False, inner), "inner", inner)

    def test_the_first_part_that_fails_is_told(self):
        for mode in WRONG_WORDS:
            for cut in NO_FLAGS[:6]:
                self.assertEqual(self.part_told(mode, cut, "later"), "mode")
                self.assertEqual(self.part_told(mode, cut, mode), "mode")
                self.assertEqual(self.part_told("level", cut, mode), "cut")
            self.assertEqual(self.part_told(mode, True, mode), "mode")
        self.assertEqual(self.part_told(True, "push", "once"), "mode")

    def test_equal_exactly_if_all_parts_are(self):
        rules = all_rules()
        for place, first in enumerate(rules):
            for other_place, second in enumerate(rules):
                same = Rule(second.mode, second.cut, second.inner)
                self.assertEqual(first == same, place == other_place)
                self.assertEqual(first != same, place != other_place)
        self.assertIs(Rule(*RIGHT) == Rule(*RIGHT), True)


class AllRulesTest(unittest.TestCase):
    DUE = [
        ("push", False, "once"), ("push", False, "later"), ("push", True, "once"), ("push", True, "later"),
        ("pull", False, "once"), ("pull", False, "later"), ("pull", True, "once"), ("pull", True, "later"),
        ("level", False, "once"), ("level", False, "later"), ("level", True, "once"), ("level", True, "later"),
    ]

    def test_twelve_rules_in_their_order(self):
        rules = all_rules()
        self.assertIs(type(rules), list)
        self.assertEqual([(rule.mode, rule.cut, rule.inner) for rule in rules], self.DUE)
        for rule in rules:
            self.assertIs(type(rule), Rule)
            self.assertIs(type(rule.cut), bool)

    def test_a_new_list_each_time(self):
        first = all_rules()
        self.assertIsNot(first, all_rules())
        first.clear()
        self.assertEqual(len(all_rules()), 12)
