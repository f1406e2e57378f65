"""Points 9, 10 and 12: runs, true words, notes and peeks."""

import itertools
import unittest

from tests.samples import COPY, ODD_VALUES, WORDS, example, nested, with_derived, with_effect
from toldonward.errors import InvalidStart, UnknownCell
from toldonward.programs import Program
from toldonward.truth import true_run, true_word, true_words


class TrueWordsTest(unittest.TestCase):
    def test_sources_hold_their_words(self):
        program = Program(("a", "b", "c"), ("s", "t", "u"), (), ())
        for words in itertools.product(program.words, repeat=3):
            self.assertEqual(true_words(program, words), words)

    def test_derived_cells_in_the_order_of_the_cells(self):
        swap = (("read", "s", "x"), ("if", "x", "on", (("put", "y", "off"),), (("put", "y", "on"),)), ("give", "y"))
        chain = (("read", "d", "x"), ("give", "x"))
        program = Program(WORDS, ("s",), (("d", swap), ("a", chain)), ())
        self.assertEqual(true_words(program, ("off",)), ("off", "on", "on"))
        self.assertEqual(true_words(program, ("on",)), ("on", "off", "off"))

    def test_nested_ifs(self):
        program = nested()
        self.assertEqual(true_words(program, ("off", "on")), ("off", "on", "off", "off"))
        for word in program.words:
            self.assertEqual(true_words(program, ("on", word)), ("on", word, word, "off"))
            self.assertEqual(true_words(program, ("mid", word)), ("mid", word, "off", "off"))

    def test_a_chain_of_all_derived_cells(self):
        pairs = []
        for before, name in zip("sabcde", "abcdef"):
            pairs.append((name, (("read", before, "x"), ("give", "x"))))
        program = Program(("off", "on", "mid"), ("s",), tuple(pairs), ())
        for word in program.words:
            self.assertEqual(true_words(program, (word,)), (word,) * 7)

    def test_the_answer_is_a_tuple(self):
        self.assertIs(type(true_words(example(), ("on",))), tuple)


class GiveTest(unittest.TestCase):
    def word(self, rows, words=("on", "on"), alphabet=WORDS):
        return true_word(with_derived(rows, alphabet), words, "d")

    def test_the_first_give_that_is_done_ends_the_run(self):
        self.assertEqual(self.word((("put", "x", "on"), ("give", "x"), ("put", "x", "off"), ("give", "x"))), "on")
        self.assertEqual(self.word((("give", "x"), ("put", "x", "on"), ("give", "x"))), "off")

    def test_without_a_give_the_cell_gets_the_default_word(self):
        self.assertEqual(self.word(()), "off")
        self.assertEqual(self.word((("read", "s", "x"),)), "off")
        self.assertEqual(self.word((("read", "s", "x"),), ("off", "off"), ("on", "off")), "on")
        self.assertEqual(self.word((("read", "s", "x"), ("if", "x", "off", (("give", "x"),), ()))), "off")

    def test_slots_hold_the_default_word_at_first(self):
        self.assertEqual(self.word((("give", "x"),)), "off")
        self.assertEqual(self.word((("give", "x"),), alphabet=("on", "off")), "on")
        self.assertEqual(self.word((("if", "x", "off", (("put", "y", "on"),), ()), ("give", "y"))), "on")
        self.assertEqual(self.word((("if", "x", "on", (("put", "y", "on"),), ()), ("give", "y"))), "off")

    def test_slots_start_anew_in_each_run(self):
        second = (("if", "x", "on", (("give", "x"),), ()),)
        program = Program(WORDS, ("s",), (("d", COPY), ("dd", second)), ())
        self.assertEqual(true_words(program, ("on",)), ("on", "on", "off"))

    def test_a_slot_may_have_the_name_of_a_cell(self):
        self.assertEqual(self.word((("give", "s"),)), "off")
        self.assertEqual(self.word((("read", "s", "s"), ("put", "t", "off"), ("give", "s"))), "on")

    def test_a_give_inside_an_if_row_ends_the_whole_run(self):
        for held, due in (("on", "on"), ("off", "off")):
            rows = (
                ("read", "s", "x"),
                ("if", "x", held, (("if", "y", "off", (("give", "x"), ("put", "x", "off")), ()),), ()),
                ("put", "x", "off"),
                ("give", "x"),
            )
            self.assertEqual(self.word(rows), due)

    def test_rows_behind_an_if_row_are_done(self):
        rows = (("if", "x", "off", (("put", "x", "on"),), (("put", "x", "off"),)), ("give", "x"))
        self.assertEqual(self.word(rows), "on")

    def test_a_slot_is_looked_at_when_the_if_row_is_done(self):
        rows = (("put", "x", "on"), ("if", "x", "on", (("put", "x", "off"),), ()),
                ("if", "x", "on", (), (("put", "y", "on"),)), ("give", "y"))
        self.assertEqual(self.word(rows), "on")

    def test_a_read_sets_the_slot_each_time(self):
        rows = (("read", "s", "x"), ("read", "t", "x"), ("give", "x"))
        self.assertEqual(self.word(rows, ("on", "off")), "off")
        rows = (("put", "x", "off"), ("read", "s", "x"), ("give", "x"))
        self.assertEqual(self.word(rows, ("on", "off")), "on")
        rows = (("read", "s", "x"), ("put", "x", "off"), ("read", "s", "x"), ("give", "x"))
        self.assertEqual(self.word(rows, ("on", "off")), "on")


class TrueRunTest(unittest.TestCase):
    def run_of(self, rows, words=("on", "off"), alphabet=WORDS):
        return true_run(with_effect(rows, alphabet), words, "e")

    def test_all_parts(self):
        rows = (("read", "d", "x"), ("peek", "t", "y"), ("say", "x"), ("write", "t", "x"), ("say", "y"))
        self.assertEqual(self.run_of(rows), {
            "notes": (("d", "on"),), "peeks": (("t", "off"),), "says": ("on", "off"), "writes": (("t", "on"),),
            "word": None,
        })

    def test_an_empty_body(self):
        empty = {"notes": (), "peeks": (), "says": (), "writes": (), "word": None}
        self.assertEqual(self.run_of(()), empty)
        program = with_derived(())
        self.assertEqual(true_run(program, ("on", "on"), "d"), dict(empty, word="off"))

    def test_the_kinds_of_values(self):
        for name in ("d", "e"):
            run = true_run(example(), ("on",), name)
            self.assertEqual(sorted(run), ["notes", "peeks", "says", "word", "writes"])
            for key in ("notes", "peeks", "says", "writes"):
                self.assertIs(type(run[key]), tuple)
            for pair in run["notes"]:
                self.assertIs(type(pair), tuple)

    def test_a_derived_cell(self):
        run = true_run(example(), ("on",), "d")
        self.assertEqual(run, {"notes": (("s", "on"),), "peeks": (), "says": (), "writes": (), "word": "on"})

    def test_the_word_of_a_derived_cell_is_its_true_word(self):
        program = nested()
        for words in itertools.product(program.words, repeat=2):
            for name in program.derived_names():
                self.assertEqual(true_run(program, words, name)["word"], true_word(program, words, name))
                self.assertEqual(true_words(program, words)[program.cells().index(name)],
                                 true_word(program, words, name))
            for name in program.effect_names():
                self.assertIsNone(true_run(program, words, name)["word"])

    def test_notes_of_nested_ifs(self):
        program = nested()
        run = true_run(program, ("on", "mid"), "d")
        self.assertEqual(run["notes"], (("s", "on"), ("t", "mid")))
        self.assertEqual(true_run(program, ("off", "mid"), "d")["notes"], (("s", "off"),))
        self.assertEqual(true_run(program, ("on", "mid"), "dd")["notes"], (("d", "mid"),))
        self.assertEqual(true_run(program, ("on", "mid"), "e")["says"], ("off", "off"))

    def test_rows_behind_a_give_are_not_done(self):
        rows = (("if", "x", "off", (("read", "s", "x"), ("give", "x"), ("read", "t", "y")), ()), ("read", "t", "y"))
        run = true_run(with_derived(rows), ("on", "off"), "d")
        self.assertEqual((run["notes"], run["word"]), ((("s", "on"),), "on"))

    def test_effects_run_to_the_end(self):
        rows = (("if", "x", "off", (("say", "x"),), (("write", "s", "x"),)), ("say", "x"), ("say", "y"))
        self.assertEqual(self.run_of(rows)["says"], ("off", "off", "off"))

    def test_a_cell_that_is_read_twice_is_noted_once(self):
        rows = (("read", "t", "x"), ("read", "s", "x"), ("read", "t", "y"), ("read", "s", "z"), ("say", "z"))
        run = self.run_of(rows)
        self.assertEqual(run["notes"], (("t", "off"), ("s", "on")))
        self.assertEqual((run["peeks"], run["says"]), ((), ("on",)))

    def test_a_cell_that_is_peeked_twice_is_noted_once(self):
        rows = (("peek", "t", "x"), ("peek", "s", "x"), ("peek", "t", "y"), ("peek", "s", "z"), ("say", "z"))
        run = self.run_of(rows)
        self.assertEqual(run["peeks"], (("t", "off"), ("s", "on")))
        self.assertEqual((run["notes"], run["says"]), ((), ("on",)))

    def test_a_cell_that_is_read_and_peeked_stands_in_both(self):
        for first, second in (("read", "peek"), ("peek", "read")):
            run = self.run_of(((first, "s", "x"), (second, "s", "y"), (second, "d", "z"), (first, "d", "z")))
            self.assertEqual(set(run["notes"]), {("s", "on"), ("d", "on")})
            self.assertEqual(set(run["peeks"]), {("s", "on"), ("d", "on")})
        run = self.run_of((("read", "s", "x"), ("peek", "t", "y"), ("peek", "s", "z"), ("read", "t", "z")))
        self.assertEqual(run["notes"], (("s", "on"), ("t", "off")))
        self.assertEqual(run["peeks"], (("t", "off"), ("s", "on")))

    def test_a_peek_sets_the_slot(self):
        self.assertEqual(self.run_of((("peek", "s", "x"), ("say", "x")))["says"], ("on",))
        self.assertEqual(self.run_of((("read", "s", "x"), ("peek", "t", "x"), ("say", "x")))["says"], ("off",))

    def test_notes_are_those_of_the_body_alone(self):
        self.assertEqual(self.run_of((("read", "d", "x"),))["notes"], (("d", "on"),))

    def test_writes_change_nothing(self):
        rows = (("put", "x", "on"), ("write", "t", "x"), ("read", "t", "y"), ("say", "y"), ("write", "s", "y"),
                ("peek", "d", "z"), ("write", "t", "x"))
        run = self.run_of(rows)
        self.assertEqual(run["notes"], (("t", "off"),))
        self.assertEqual(run["peeks"], (("d", "on"),))
        self.assertEqual(run["says"], ("off",))
        self.assertEqual(run["writes"], (("t", "on"), ("s", "off"), ("t", "on")))

    def test_says_and_writes_in_order_with_duplicates(self):
        rows = (("say", "x"), ("put", "x", "on"), ("say", "x"), ("say", "x"), ("write", "s", "x"), ("write", "s", "y"),
                ("write", "s", "x"))
        run = self.run_of(rows)
        self.assertEqual(run["says"], ("off", "on", "on"))
        self.assertEqual(run["writes"], (("s", "on"), ("s", "off"), ("s", "on")))

    def test_slots_that_no_row_has_set(self):
        run = self.run_of((("say", "q"), ("write", "s", "r")), ("off", "off"), ("on", "off"))
        self.assertEqual((run["says"], run["writes"]), (("on",), (("s", "on"),)))

    def test_each_answer_is_a_new_dict(self):
        program = example()
        first = true_run(program, ("on",), "e")
        first.clear()
        second = true_run(program, ("on",), "e")
        second["word"] = "changed"
        self.assertEqual(true_run(program, ("on",), "e")["notes"], (("s", "on"), ("d", "on")))
        self.assertIsNone(true_run(program, ("on",), "e")["word"])


class WrongTest(unittest.TestCase):
    WRONG_WORDS = ODD_VALUES + [
        (), ("on",), ("on", "on", "on"), ("on", "up"), ("up", "on"), ("on", "s"), ["on", "on"], ("on", None),
        ("on", True), ("on", 0), (("on",), "on"), (["on"], "on"), ("on", {}), "onon", {"on": 1, "off": 1}, ("", ""),
    ]

    def calls(self, program, words, name):
        return [lambda: true_words(program, words), lambda: true_word(program, words, name),
                lambda: true_run(program, words, name)]

    def test_wrong_words(self):
        program = with_effect(())
        for words in self.WRONG_WORDS:
            for name in ("d", "e", "nobody"):
                for call in self.calls(program, words, name):
                    with self.assertRaises(InvalidStart) as caught:
                        call()
                    self.assertIs(caught.exception.words, words)

    def test_unknown_names_in_true_word(self):
        for name in ("e", "q", "x", "on", "", None, 0, ("s",), ["s"], {}):
            with self.assertRaises(UnknownCell) as caught:
                true_word(example(), ("on",), name)
            self.assertEqual(caught.exception.name, name)

    def test_unknown_names_in_true_run(self):
        for name in ("s", "q", "x", "on", "", None, 0, ("d",), ["d"], {}):
            with self.assertRaises(UnknownCell) as caught:
                true_run(example(), ("on",), name)
            self.assertEqual(caught.exception.name, name)

    def test_true_word_of_a_source(self):
        self.assertEqual(true_word(with_derived(()), ("on", "off"), "t"), "off")
        self.assertEqual(true_word(with_derived(()), ("on", "off"), "s"), "on")

    def test_arguments_by_name(self):
        program = example()
        self.assertEqual(true_words(program=program, words=("on",)), ("on", "on"))
        self.assertEqual(true_word(program=program, words=("on",), cell="d"), "on")
        self.assertEqual(true_run(program=program, words=("on",), name="d")["word"], "on")
