"""Programs and values that several tests use."""

from toldonward.programs import Program

WORDS = ("off", "on")
COPY = (("read", "s", "x"), ("give", "x"))
SAY_D = (("read", "s", "x"), ("read", "d", "y"), ("say", "y"))

ON = ("write", "s", "on")
OFF = ("write", "s", "off")
# A body that reads s and gives the same word always.
SAME = (("read", "s", "x"), ("give", "y"))

# Values that are neither a name, nor a tuple, nor a right path.
ODD_VALUES = [None, True, False, 0, 1, -1, 10 ** 30, "", "off", "derived", [], {}, {"a": 1}, [[]], ["off", "on"]]

NO_NAMES = ["", "ninechars", "Off", "oF", "o1", "o f", " off", "off ", "o-f", "o_f", "\n", "off\n", "\u00e9", "\u0430",
            None, True, False, 0, 1, ("off",), ["off"], {"off": 1}, (), [], {}]


def say(cell):
    """The body of an effect that says the word of the cell."""
    return (("read", cell, "x"), ("say", "x"))


def give(cell):
    """The body of a derived cell that gives the word of the cell."""
    return (("read", cell, "x"), ("give", "x"))


def example():
    """The program of the document's examples."""
    return Program(WORDS, ("s",), (("d", COPY),), (("e", SAY_D),))


def with_derived(rows, words=WORDS, sources=("s", "t")):
    """A program with one derived cell d that has these rows."""
    return Program(words, sources, (("d", rows),), ())


def with_effect(rows, words=WORDS, sources=("s", "t")):
    """A program with a derived cell d and one effect e that has these rows."""
    return Program(words, sources, (("d", COPY),), (("e", rows),))


def nested():
    """A program with if rows inside if rows, in two derived cells and two effects."""
    first = (
        ("read", "s", "x"),
        ("if", "x", "on", (
            ("put", "y", "mid"),
            ("if", "y", "off", (("give", "x"),), (("read", "t", "z"), ("give", "z"))),
            ("put", "y", "on"),
        ), ()),
        ("give", "y"),
    )
    second = (("if", "x", "off", (), (("give", "x"),)), ("read", "d", "x"))
    third = (
        ("if", "x", "off", (
            ("if", "y", "off", (
                ("if", "z", "off", (("say", "z"),), (("say", "y"),)),
            ), (("peek", "d", "x"),)),
        ), (("write", "t", "x"),)),
        ("say", "x"),
    )
    return Program(("off", "on", "mid"), ("s", "t"), (("d", first), ("dd", second)), (("e", third), ("f", ())))


NESTED_PATHS = [
    ("derived", 0, 0),
    ("derived", 0, 1),
    ("derived", 0, 1, 0, 0),
    ("derived", 0, 1, 0, 1),
    ("derived", 0, 1, 0, 1, 0, 0),
    ("derived", 0, 1, 0, 1, 1, 0),
    ("derived", 0, 1, 0, 1, 1, 1),
    ("derived", 0, 1, 0, 2),
    ("derived", 0, 2),
    ("derived", 1, 0),
    ("derived", 1, 0, 1, 0),
    ("derived", 1, 1),
    ("effects", 0, 0),
    ("effects", 0, 0, 0, 0),
    ("effects", 0, 0, 0, 0, 0, 0),
    ("effects", 0, 0, 0, 0, 0, 0, 0, 0),
    ("effects", 0, 0, 0, 0, 0, 0, 1, 0),
    ("effects", 0, 0, 0, 0, 1, 0),
    ("effects", 0, 0, 1, 0),
    ("effects", 0, 1),
]
