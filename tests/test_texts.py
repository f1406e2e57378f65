"""Point 29: texts of programs and of deeds."""

import random
import re

from tests.cases import ErrorCase
from tests.made import made_deed, made_program
from tests.samples import COPY, NO_NAMES, SAY_D, WORDS, example, nested, with_effect
from toldonward.errors import InvalidProgram, InvalidText
from toldonward.programs import Program
from toldonward.texts import format_deeds, format_program, parse_deeds, parse_program

EXAMPLE = "words off on\nsources s\nderived d\nread s x\ngive x\neffect e\nread s x\nread d y\nsay y\n"

NESTED = """words off on mid
sources s t
derived d
read s x
if x on
put y mid
if y off
give x
else
read t z
give z
end
put y on
else
end
give y
derived dd
if x off
else
give x
end
read d x
effect e
if x off
if y off
if z off
say z
else
say y
end
else
peek d x
end
else
write t x
end
say x
effect f
"""


def with_line(text, number, line):
    """The text with another line of this number, counted from 1."""
    lines = text.split("\n")
    lines[number - 1] = line
    return "\n".join(lines)


def without_line(text, number):
    lines = text.split("\n")
    del lines[number - 1]
    return "\n".join(lines)


class FormatTest(ErrorCase):
    def test_programs(self):
        self.assertEqual(format_program(example()), EXAMPLE)
        self.assertEqual(format_program(nested()), NESTED)
        bare = Program(("a", "b"), ("s",), (), ())
        self.assertEqual(format_program(bare), "words a b\nsources s\n")
        empty = Program(("a", "b"), ("s", "t"), (("d", ()), ("c", ())), (("e", ()),))
        self.assertEqual(format_program(empty), "words a b\nsources s t\nderived d\nderived c\neffect e\n")

    def test_each_row(self):
        rows = (("read", "s", "x"), ("peek", "d", "y"), ("put", "z", "on"), ("write", "t", "x"), ("say", "y"),
                ("if", "x", "off", (), ()))
        self.assertEqual(format_program(with_effect(rows)),
                         "words off on\nsources s t\nderived d\nread s x\ngive x\neffect e\nread s x\npeek d y\n"
                         "put z on\nwrite t x\nsay y\nif x off\nelse\nend\n")

    def test_back(self):
        for program in (example(), nested(), Program(("a", "b"), ("s",), (), ())):
            again = parse_program(format_program(program))
            self.assertIs(type(again), Program)
            self.assertEqual(again, program)
            self.assertEqual(vars(again), vars(program))
        for text in (EXAMPLE, NESTED):
            self.assertEqual(format_program(parse_program(text)), text)

    def test_back_for_made_up_programs(self):
        dice = random.Random(151)
        for _ in range(300):
            program = made_program(dice, words=4, sources=4, derived=6, effects=4)
            self.assertEqual(parse_program(format_program(program)), program)

    def test_names_that_are_words_of_the_form(self):
        program = Program(("else", "end"), ("words", "sources"), (("derived", (("read", "words", "read"),)),),
                          (("effect", (("if", "if", "end", (("say", "say"),), (("peek", "derived", "end"),)),)),))
        text = ("words else end\nsources words sources\nderived derived\nread words read\neffect effect\n"
                "if if end\nsay say\nelse\npeek derived end\nend\n")
        self.assertEqual(format_program(program), text)
        self.assertEqual(parse_program(text), program)

    def test_arguments_by_name(self):
        self.assertEqual(parse_program(text=format_program(program=example())), example())
        self.assertEqual(parse_deeds(text=format_deeds(deeds=[("read", "s")])), [("read", "s")])


class ParseTest(ErrorCase):
    def wrong(self, text, line):
        with self.assertRaises(InvalidText) as caught:
            parse_program(text)
        self.assertEqual(vars(caught.exception), {"line": line}, text)

    def test_the_end_comes_first(self):
        self.wrong("", 0)
        for text in (EXAMPLE[:-1], "words", "x", " ", "words off on\nsources s", "oops\n\nwords", "\n\nx", EXAMPLE + " ",
                     EXAMPLE + "\r", with_line(EXAMPLE, 3, "  ")[:-1], "words off on\nif x on", "\x00"):
            self.wrong(text, 0)

    def test_one_line(self):
        self.wrong("words off on\n", 2)
        self.wrong("words off\n", 2)
        for line in ("", "words", "sources s", "words off on ", "words  off", "words Off", "effect e", " words off on"):
            self.wrong(line + "\n", 1)

    def test_one_spoiled_line(self):
        for text in (EXAMPLE, NESTED):
            lines = text.split("\n")[:-1]
            for number, line in enumerate(lines, 1):
                items = line.split(" ")
                spoiled = ["", " ", line + " ", " " + line, line.replace(" ", "  "), line + "  ", line.upper(), "x" + line,
                           line + "\t", line + "\r", line.replace(" ", "\t"), "#" + line, line + " # x", line + "\x0b",
                           " ".join(["oops"] + items[1:]), " ".join(items[:1] + ["x1"] + items[2:]),
                           " ".join(items + ["ninechars"]), " ".join(items + ["\u00e9"]), " ".join(items + [""]),
                           line.replace("e", "\u0435"), line + "\x85", line + "\u2028", line + "\x0c", line + "\x1e"]
                for wrong in spoiled:
                    if wrong != line:
                        self.wrong(with_line(text, number, wrong), number)

    def test_numbers_of_items(self):
        for number, line in enumerate(NESTED.split("\n")[:-1], 1):
            items = line.split(" ")
            if number < 3:
                # Any number of names is right here, but none is not.
                self.wrong(with_line(NESTED, number, items[0]), number)
                continue
            self.wrong(with_line(NESTED, number, line + " x"), number)
            self.wrong(with_line(NESTED, number, line + " x on"), number)
            if len(items) > 1:
                self.wrong(with_line(NESTED, number, " ".join(items[:-1])), number)
                self.wrong(with_line(NESTED, number, items[0]), number if len(items) > 1 else None)

    def test_items_that_are_no_names(self):
        for name in [name for name in NO_NAMES if isinstance(name, str) and "\n" not in name]:
            for number, line in enumerate(EXAMPLE.split("\n")[:-1], 1):
                items = line.split(" ")
                for place in range(1, len(items)):
                    wrong = " ".join(items[:place] + [name] + items[place + 1:])
                    if name == "o f" and number < 3:
                        continue
                    self.wrong(with_line(EXAMPLE, number, wrong), number)

    def test_the_first_two_lines(self):
        self.wrong("sources s\nwords off on\n", 1)
        self.wrong("words off on\nwords off on\nsources s\n", 2)
        self.wrong("words off on\nderived d\n", 2)
        self.wrong("words off on\neffect e\n", 2)
        self.wrong("words off on\n\nsources s\n", 2)
        self.wrong(EXAMPLE + "words off on\n", 10)
        self.wrong(EXAMPLE + "sources s\n", 10)
        self.wrong("words off on\nsources s\nsources t\n", 3)
        self.wrong("\n" + EXAMPLE, 1)
        self.wrong("derived d\n", 1)

    def test_lines_of_a_body_ahead_of_each_body(self):
        for line in ("read s x", "peek s x", "put x on", "give x", "write s x", "say x", "if x on", "else", "end"):
            self.wrong("words off on\nsources s\n" + line + "\n", 3)
            self.wrong("words off on\nsources s\n" + line + "\n" + "effect e\n", 3)
            for number in (1, 2):
                self.wrong(with_line(EXAMPLE, number, line), number)

    def test_derived_lines_behind_effect_lines(self):
        self.wrong(EXAMPLE + "derived c\n", 10)
        self.wrong("words off on\nsources s\neffect e\nderived c\neffect f\n", 4)
        parse_program("words off on\nsources s\nderived e\nderived c\neffect f\n")

    def test_else_and_end(self):
        head = "words off on\nsources s\neffect e\n"
        for body, number in (("else\n", 4), ("end\n", 4), ("say x\nend\n", 5), ("if x on\nend\n", 5),
                             ("if x on\nelse\nelse\nend\n", 6), ("if x on\nelse\nend\nelse\n", 7),
                             ("if x on\nelse\nend\nend\n", 7), ("if x on\nelse\nsay x\nelse\n", 7),
                             ("if x on\nif y on\nelse\nend\nend\n", 8), ("if x on\nelse\nif y on\nend\n", 7),
                             ("if x on\nelse\nif y on\nelse\nend\nelse\n", 9), ("if x on\nsay x\nend\nelse\n", 6)):
            self.wrong(head + body, number)

    def test_a_head_inside_an_open_if(self):
        for between in ("if x on\n", "if x on\nelse\n", "if x on\nelse\nif y on\nelse\nend\n", "if x on\nsay x\n"):
            number = 4 + between.count("\n")
            self.wrong("words off on\nsources s\neffect e\n" + between + "effect f\n", number)
            self.wrong("words off on\nsources s\nderived e\n" + between + "derived f\n", number)
            self.wrong("words off on\nsources s\nderived e\n" + between + "effect f\nelse\nend\n", number)

    def test_an_if_that_is_left_open(self):
        for body in ("if x on\n", "if x on\nelse\n", "if x on\nsay x\nelse\nsay x\n", "if x on\nif y on\nelse\nend\n",
                     "if x on\nelse\nif y on\nelse\nend\n", "if x on\nif y on\n"):
            text = "words off on\nsources s\neffect e\n" + body
            self.wrong(text, text.count("\n") + 1)
        # The last line plus 1, also where the program would be wrong.
        self.wrong("words off\nsources s\neffect e\nread nix x\nif x on\n", 6)

    def test_the_first_wrong_line_is_told(self):
        self.wrong(with_line(with_line(EXAMPLE, 8, "oops"), 5, ""), 5)
        self.wrong(with_line(with_line(EXAMPLE, 1, "words"), 2, "sources"), 1)
        self.wrong(without_line(EXAMPLE, 1), 1)
        self.wrong(without_line(EXAMPLE, 2), 2)
        self.wrong(without_line(EXAMPLE, 3), 3)
        self.wrong(EXAMPLE + "\n", 10)
        self.wrong(EXAMPLE + EXAMPLE, 10)
        # A wrong line comes ahead of what is wrong with the program.
        self.wrong("words off off\nsources s\nderived d\ngive\n", 4)

    def test_right_lines_that_are_no_program(self):
        head = "words off on\nsources s t\n"
        for text, part, path in (
                ("words off\nsources s\n", "words", ()), ("words off off\nsources s\n", "words", ()),
                ("words a b c d e\nsources s\n", "words", ()), ("words a b\nsources s t u v w\n", "sources", ()),
                ("words a b\nsources s s\n", "sources", ()), (head + "derived s\n", "derived", ()),
                (head + "derived d\nderived d\n", "derived", ()), (head + "effect e\neffect e\n", "effects", ()),
                (head + "derived d\neffect d\n", "effects", ()),
                (head + "derived a\nderived b\nderived c\nderived d\nderived g\nderived h\nderived i\n", "derived", ()),
                (head + "derived d\nsay x\n", "rows", ("derived", 0, 0)),
                (head + "derived d\npeek s x\n", "rows", ("derived", 0, 0)),
                (head + "derived d\nread d x\n", "rows", ("derived", 0, 0)),
                (head + "effect e\ngive x\n", "rows", ("effects", 0, 0)),
                (head + "effect e\nread q x\n", "rows", ("effects", 0, 0)),
                (head + "effect e\nput x up\n", "rows", ("effects", 0, 0)),
                (head + "effect e\nif x on\nelse\nwrite e x\nend\n", "rows", ("effects", 0, 0, 1, 0)),
                (head + "effect e\n" + "if x on\n" * 4 + "else\nend\n" * 4, "rows", ("effects", 0, 0, 0, 0, 0, 0, 0, 0)),
                (head + "effect e\n" + "say x\n" * 17, "many", ("effects", 0))):
            with self.assertRaises(InvalidProgram) as caught:
                parse_program(text)
            self.assertEqual(vars(caught.exception), {"part": part, "path": path})

    def test_if_rows_that_are_nested_very_deep(self):
        for many in (4, 100, 5000):
            text = "words off on\nsources s\neffect e\n" + "if x on\n" * many + "else\nend\n" * many
            with self.assertRaises(InvalidProgram) as caught:
                parse_program(text)
            self.assertEqual(caught.exception.path, ("effects", 0) + (0, 0) * 3 + (0,))
            self.wrong(text + "end\n", 4 + 3 * many)
            self.wrong(text[:-4], 3 + 3 * many)

    def test_sixteen_rows_and_three_ifs(self):
        rows = "if x on\n" * 3 + "say x\n" * 13 + "else\nend\n" * 3
        program = parse_program("words off on\nsources s\neffect e\n" + rows)
        self.assertEqual(len(program.row_paths()), 16)
        self.assertEqual(format_program(program), "words off on\nsources s\neffect e\n" + rows)


FORMS = [r"(derived|effect|give|say) N", r"(read|peek|put|write|if) N N", r"(else|end)"]
LINE = re.compile("|".join(FORMS).replace("N", "[a-z]{1,8}"))


def first_wrong_line(text):
    """A second way: whole lines by patterns, then the ifs as a text of letters. None if all lines are right."""
    if not re.search(r"\n\Z", text):
        return 0
    lines = text.split("\n")[:-1]
    letters = ""
    for number, line in enumerate(lines, 1):
        if number < 3:
            right = re.fullmatch(("words", "sources")[number - 1] + "( [a-z]{1,8})+", line)
        else:
            right = LINE.fullmatch(line)
            letters += {"derived": "D", "effect": "E", "if": "i", "else": "l", "end": "n"}.get(line.split(" ")[0], "r")
            rest = letters
            while "iln" in rest.replace("r", ""):
                rest = rest.replace("r", "").replace("iln", "")
            right = right and re.fullmatch("(D*E*|D+|D*E+)(i|il)*", rest.replace("r", "")) and letters[0] in "DE"
            right = right and not (rest[-1] in "DE" and re.search("i", rest))
        if not right:
            return number
    return len(lines) + 1 if len(lines) == 1 or "i" in letters.replace("r", "") and self_open(letters) else None


def self_open(letters):
    """True if an if is open behind these lines."""
    return letters.count("i") > letters.count("n")


class ManyTextsTest(ErrorCase):
    def test_lines_that_are_left_out_doubled_or_exchanged(self):
        dice = random.Random(152)
        counts = {}
        for _ in range(2500):
            text = format_program(made_program(dice))
            lines = text.split("\n")[:-1]
            for _ in range(dice.randint(1, 3)):
                first, second = dice.randrange(len(lines)), dice.randrange(len(lines))
                form = dice.randrange(5)
                if form == 0 and len(lines) > 1:
                    del lines[first]
                elif form == 1:
                    lines.insert(first, lines[second])
                elif form == 2:
                    lines[first], lines[second] = lines[second], lines[first]
                elif form == 3:
                    lines.insert(first, dice.choice(("else", "end", "if x on", "", "derived q", "effect q", "put x")))
                else:
                    letters = list(lines[first] + " ")
                    letters[dice.randrange(len(letters))] = dice.choice(" xE")
                    lines[first] = "".join(letters)
            text = "\n".join(lines) + "\n" * (dice.random() < 0.95)
            due = first_wrong_line(text)
            try:
                parse_program(text)
                found = None
            except InvalidText as error:
                found = error.line
            except InvalidProgram:
                found = None
            self.assertEqual(found, due, text)
            form = "right" if due is None else "end" if due > len(lines) else "zero" if due == 0 else "inside"
            counts[form] = counts.get(form, 0) + 1
        self.assertTrue(len(counts) == 4 and min(counts.values()) > 10, counts)


class DeedsTest(ErrorCase):
    DEEDS = [("write", "s", "on"), ("batch", (("s", "off"), ("t", "on"))), ("read", "d")]
    TEXT = "write s on\nbatch s off t on\nread d\n"

    def test_each_form(self):
        self.assertEqual(format_deeds(self.DEEDS), self.TEXT)
        self.assertEqual(parse_deeds(self.TEXT), self.DEEDS)
        for deeds, text in (([], ""), ([("batch", (("s", "on"),))], "batch s on\n"),
                            ([("batch", (("s", "on"), ("t", "on"), ("u", "off")))], "batch s on t on u off\n"),
                            ([("read", "read"), ("write", "write", "batch")], "read read\nwrite write batch\n"),
                            ([("read", "s")] * 2, "read s\nread s\n")):
            self.assertEqual(format_deeds(deeds), text)
            self.assertEqual(parse_deeds(text), deeds)

    def test_batches_of_any_number_of_writes_and_any_names(self):
        letters = "abcdefghijklmnopqrstuvwxyz"
        many = tuple((first + second, second) for first in letters for second in letters)
        deeds = [("batch", many), ("write", "nix", "nought"), ("read", "abcdefgh"), ("batch", (("a", "a"), ("b", "a")))]
        self.assertEqual(parse_deeds(format_deeds(deeds)), deeds)

    def test_made_up_deeds(self):
        dice = random.Random(153)
        for _ in range(200):
            program = made_program(dice, words=4, sources=4)
            deeds = [made_deed(dice, program) for _ in range(dice.randint(0, 6))]
            self.assertEqual(parse_deeds(format_deeds(deeds)), deeds)

    def wrong(self, text, line):
        with self.assertRaises(InvalidText) as caught:
            parse_deeds(text)
        self.assertEqual(vars(caught.exception), {"line": line}, text)

    def test_the_end_comes_first(self):
        for text in (self.TEXT[:-1], "read s", "x", " ", "oops\nread s", "\nread s", "read s\n "):
            self.wrong(text, 0)

    def test_wrong_lines(self):
        for line in ("", " ", "read", "read s t", "read  s", "read s ", " read s", "read S", "read ninechars", "read s\t",
                     "write", "write s", "write s on off", "write s  on", "write s on ", "write s 1", "Write s on",
                     "batch", "batch ", "batch s", "batch s on t", "batch s on s on", "batch s on t on s off",
                     "batch s on  t on", "batch s on t on ", "batch s on s off", "batch S on", "batch s on t ninechars",
                     "say s", "peek s", "set s on", "start", "words off on", "read s\r", "batch s on, t on",
                     "read \u0430", "reads s", "#read s", "read s #", "read s\x0b", "read s\x85", "read s\u2028"):
            self.wrong(line + "\n", 1)
            self.wrong(self.TEXT + line + "\n" + self.TEXT, 4)
            self.wrong("read s\n" + line + "\n" + line + "\n", 2)
            self.wrong("read s\n" + line + "\nread s", 0)

    def test_new_lists(self):
        first = parse_deeds(self.TEXT)
        first.clear()
        self.assertEqual(parse_deeds(self.TEXT), self.DEEDS)
        deeds = list(self.DEEDS)
        format_deeds(deeds)
        self.assertEqual(deeds, self.DEEDS)
        self.assertIs(type(parse_deeds("")), list)


class PartsTest(ErrorCase):
    def test_bodies_are_tuples(self):
        program = parse_program(EXAMPLE)
        self.assertEqual((program.words, program.sources), (WORDS, ("s",)))
        self.assertEqual(program.derived, (("d", COPY),))
        self.assertEqual(program.effects, (("e", SAY_D),))
