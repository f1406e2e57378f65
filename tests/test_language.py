"""Some of the rules of the language that a look at the files can check."""

import ast
import pathlib
import unittest

PACKAGE = pathlib.Path(__file__).resolve().parent.parent / "toldonward"

LIBRARY = {"heapq": {"heappush", "heappop", "heapify", "heapreplace", "heappushpop"},
           "math": {"gcd", "lcm", "isqrt", "comb", "perm", "factorial"},
           "itertools": {"product", "combinations", "permutations"}}

BUILTINS = set(
    "len range enumerate zip min max sum abs sorted reversed int str bool list tuple dict set frozenset isinstance "
    "ord repr any all divmod map iter next Exception ValueError TypeError KeyError IndexError LookupError "
    "ZeroDivisionError ArithmeticError OverflowError RuntimeError NotImplementedError AttributeError StopIteration "
    "NotImplemented property staticmethod classmethod super".split())

BARRED = (ast.AsyncFunctionDef, ast.Global, ast.Div, ast.TypeAlias if hasattr(ast, "TypeAlias") else ast.Global)

INTERFACE = {
    "errors.py": ["ToldError"],
    "programs.py": ["Program"],
    "truth.py": ["true_words", "true_word", "true_run"],
    "rules.py": ["Rule", "all_rules"],
    "standings.py": ["is_standing", "is_deed", "deeds"],
    "reasons.py": ["telling", "is_reason", "is_lever", "lever_words", "least_reasons", "least_levers",
                   "deciding_sources", "certainty", "shares"],
    "why.py": ["reached", "reasons_within", "kept_reach", "wasted", "steering"],
    "spreading.py": ["Step", "begin", "step"],
    "judge.py": ["KINDS", "faults", "runs_of"],
    "live.py": ["Pack", "Live"],
    "texts.py": ["format_program", "parse_program", "format_deeds", "parse_deeds"],
    "books.py": ["Book", "is_closed"],
    "verdicts.py": ["Verdict"],
    "alike.py": ["difference", "alike", "parting", "classes"],
    "plain.py": ["plain_begin", "plain_step", "plain_difference", "is_plain"],
    "counting.py": ["most_runs", "never_done", "costs"],
    "heals.py": ["is_change", "with_changes", "heals", "rules_free"],
    "desk.py": ["Desk"],
}

METHODS = {
    "Program": {"__init__", "__eq__", "cells", "derived_names", "effect_names", "body", "row_paths", "row_at",
                "with_row"},
    "Rule": {"__init__", "__eq__"},
    "Step": {"__init__"},
    "Pack": {"__init__", "__setitem__", "__len__", "__contains__", "writes"},
    "Live": {"__init__", "__setitem__", "__len__", "bound", "set_bound", "write", "write_pack", "read", "perform",
             "full_log", "standing", "last_events", "deeds_done", "fork", "undo"},
    "Book": {"__init__", "__len__", "__contains__", "moves", "starts", "standings", "least_run", "follow", "faults",
             "least_fault", "is_free", "verdict", "way"},
    "Verdict": {"__init__", "pairs", "kinds", "only", "__or__", "__and__", "__sub__", "__eq__", "__len__",
                "__contains__"},
    "Desk": {"__init__", "current", "put_program", "watched", "__ior__", "__getitem__", "__setitem__", "__len__", "undo",
             "redo", "verdicts", "attempt"},
}


def files():
    return sorted(PACKAGE.glob("*.py"))


class LanguageTest(unittest.TestCase):
    def test_the_folder_holds_plain_files_only(self):
        for path in PACKAGE.iterdir():
            if path.name != "__pycache__":
                self.assertRegex(path.name, r"^[a-z0-9_]+\.py$")

    def test_sizes_and_characters(self):
        for path in files():
            text = path.read_bytes()
            self.assertTrue(all(byte == 10 or 32 <= byte <= 126 for byte in text), path.name)
            lines = text.decode("ascii").split("\n")
            self.assertLessEqual(len(lines), 399, path.name)
            self.assertLessEqual(max(map(len, lines)), 120, path.name)
            for node in ast.walk(ast.parse(text)):
                if isinstance(node, ast.FunctionDef):
                    self.assertLessEqual(node.end_lineno - node.lineno + 1, 40, node.name)

    def test_imports(self):
        for path in files():
            tree = ast.parse(path.read_text())
            for node in ast.walk(tree):
                self.assertNotIsInstance(node, ast.Import, path.name)
                if isinstance(node, ast.ImportFrom):
                    self.assertIn(node, tree.body, path.name)
                    self.assertEqual(node.level, 0, path.name)
                    for alias in node.names:
                        self.check_import(path, node.module, alias)

    def check_import(self, path, module, alias):
        if module in LIBRARY:
            self.assertIn(alias.name, LIBRARY[module], path.name)
            self.assertIsNone(alias.asname, path.name)
            return
        folder, _, name = module.partition(".")
        self.assertEqual(folder, "toldonward", path.name)
        self.assertIn(alias.name, self.defined_in(PACKAGE / (name + ".py")), path.name)

    def defined_in(self, path):
        names = set()
        for node in ast.parse(path.read_text()).body:
            if isinstance(node, (ast.FunctionDef, ast.ClassDef)):
                names.add(node.name)
            if isinstance(node, ast.Assign):
                names.update(target.id for target in node.targets)
        return names

    def test_names_and_statements(self):
        builtins = set(dir(__builtins__)) if not isinstance(__builtins__, dict) else set(__builtins__)
        for path in files():
            for node in ast.walk(ast.parse(path.read_text())):
                self.assertNotIsInstance(node, BARRED, path.name)
                if isinstance(node, ast.Name):
                    self.assertTrue(node.id not in builtins or node.id in BUILTINS, (path.name, node.id))
                if isinstance(node, ast.Constant):
                    self.assertNotIsInstance(node.value, float, path.name)
                if isinstance(node, ast.arg):
                    self.assertNotIn(node.arg, builtins, path.name)

    def test_the_interface_stands_in_its_files(self):
        for name, due in INTERFACE.items():
            self.assertLessEqual(set(due), self.defined_in(PACKAGE / name))
            for node in ast.parse((PACKAGE / name).read_text()).body:
                if isinstance(node, ast.ClassDef) and node.name in due:
                    methods = {part.name for part in node.body if isinstance(part, ast.FunctionDef)}
                    self.assertLessEqual(METHODS.get(node.name, set()), methods)

    def test_no_two_files_import_from_each_other(self):
        behind = {}
        for path in files():
            nodes = [node for node in ast.parse(path.read_text()).body if isinstance(node, ast.ImportFrom)]
            behind[path.stem] = {node.module.partition(".")[2] for node in nodes if node.module not in LIBRARY}
        while behind:
            ends = [name for name, others in behind.items() if not others & set(behind)]
            self.assertTrue(ends, behind)
            for name in ends:
                del behind[name]
