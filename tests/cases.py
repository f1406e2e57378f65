"""Wrong values of many kinds, and a base of test classes that look closely at errors."""

import unittest

from tests.samples import COPY
from toldonward.programs import Program

NO_BOUNDS = [0, 2001, -1, 10 ** 9, True, False, None, "", "200", "most", (), (1,), [], [1], {}]

# Deeds of the program THREE, and values that are none.
THREE = Program(("off", "on", "mid"), ("s", "t", "u"), (("d", COPY), ("b", COPY)), (("e", ()),))

RIGHT_DEEDS = [
    ("write", "s", "off"), ("write", "t", "on"), ("write", "u", "mid"),
    ("batch", (("s", "on"),)), ("batch", (("t", "on"), ("s", "on"))), ("batch", (("s", "mid"), ("t", "mid"))),
    ("batch", (("s", "on"), ("t", "off"), ("u", "mid"))), ("batch", (("u", "on"), ("t", "off"), ("s", "mid"))),
    ("read", "s"), ("read", "u"), ("read", "d"), ("read", "b"),
]
WRONG_DEEDS = [
    ("write", "q", "on"), ("write", "d", "on"), ("write", "e", "on"), ("write", "on", "on"), ("write", "s", "top"),
    ("write", "s", "s"), ("write", "s", ""), ("write", "s", "ON"), ("write", "s"), ("write", "s", "on", "on"),
    ("write",), ("write", ("s", "on")), ("write", (("s", "on"),)), ("write", None, "on"), ("write", "s", None),
    ("write", 0, 0), ("write", "s", True), ("write", ["s"], "on"), ("write", "s", ["on"]), ("write", {}, {}),
    ["write", "s", "on"], ("Write", "s", "on"), ("set", "s", "on"), (None, "s", "on"), (True, "s", "on"),
    ("s", "on"), "write", "write s on", ("", "s", "on"), (("write",), "s", "on"), (["write"], "s", "on"),
    ("batch", ()), ("batch",), ("batch", (("s", "on"),), ()), ("batch", [("s", "on")]), ("batch", ("s", "on")),
    ("batch", (["s", "on"],)), ("batch", (("s", "on"), ("s", "on"))), ("batch", (("s", "on"), ("s", "off"))),
    ("batch", (("s", "on"), ("t", "on"), ("s", "off"))), ("batch", (("d", "on"),)), ("batch", (("s", "top"),)),
    ("batch", (("q", "on"),)), ("batch", (("s", "on"), ("q", "on"))), ("batch", (("s", "on"), ("d", "on"))),
    ("batch", (("s", "on"), ("t", "top"))), ("batch", (("s", "on"), ())), ("batch", (("s",),)),
    ("batch", (("s", "on", "on"),)), ("batch", (("write", "s", "on"),)), ("batch", "so"), ("batch", None),
    ("batch", 0), ("batch", {"s": "on"}), ("batch", ((None, None),)), ("batch", (None,)), ("batch", ("s",)),
    ("batch", (("s", "on"), None)), ("batch", "s", "on"), ["batch", (("s", "on"),)], ("batch", (("s", ["on"]),)),
    ("batch", (("s", True),)), ("batch", ((["s"], "on"),)),
    ("read",), ("read", "q"), ("read", "e"), ("read", "on"), ("read", ""), ("read", None), ("read", 0),
    ("read", True), ("read", ("s",)), ("read", ["s"]), ("read", {}), ("read", "s", "on"), ["read", "s"],
    ("peek", "s"), ("say", "s"), ("give", "s"), ("READ", "s"), ("s",), (None, "s"), ("s", "read"),
]


def deep_values():
    """Tuples, lists, dicts and if rows that are nested 20 deep and somewhat deeper."""
    values = []
    for times in (20, 25):
        for wrap in (lambda x: (x,), lambda x: [x], lambda x: {"a": x}, lambda x: ("if", "x", "on", (x,), ()),
                     lambda x: ("if", "x", "on", (), (x, x)), lambda x: ("derived", x, 0)):
            value = "s"
            for _ in range(times):
                value = wrap(value)
            values.append(value)
    return values


class ErrorCase(unittest.TestCase):
    def raises(self, error, attributes, call, *arguments, **named):
        """The call raises the error, which has just these attributes, and the very values that are due."""
        with self.assertRaises(error) as caught:
            call(*arguments, **named)
        self.assertIs(type(caught.exception), error)
        self.assertEqual(list(vars(caught.exception)), list(attributes))
        for name, value in attributes.items():
            self.assertIs(getattr(caught.exception, name), value)
