"""More of the rules of the language: statements, names, values and classes, by a look at the syntax trees."""

import ast
import builtins
import re
import unittest

from tests.test_language import files

DUNDERS = set("""__init__ __eq__ __len__ __iter__ __contains__ __getitem__ __setitem__ __or__ __and__ __sub__ __ior__
__bool__""".split())
STATEMENTS = (ast.Assign, ast.AugAssign, ast.If, ast.While, ast.For, ast.Return, ast.Break, ast.Continue, ast.Pass,
              ast.Raise, ast.Assert, ast.Delete, ast.Try, ast.Expr, ast.FunctionDef, ast.ClassDef, ast.ImportFrom)
METHODS = set("""append clear copy count endswith extend find get index insert isalnum isalpha isdigit islower isspace
isupper items join keys ljust lower lstrip partition pop remove replace reverse rfind rjust rpartition rsplit rstrip
setdefault split splitlines startswith strip update upper values zfill bit_length""".split())
CHANGING = ("append", "clear", "extend", "insert", "pop", "remove", "reverse", "setdefault", "update", "sort")
NOWHERE = set("register mro elements open input law version_info with_traceback add_note format format_map".split())
NOT_AS_NAMES = set("""attrgetter breakpoint builtins compile copyright credits delattr dir eval exec exit gc getattr
globals hasattr help id importlib license locals methodcaller os quit setattr super type vars sys""".split())
WORDS = re.compile(r"\b(type|typing|enum|Enum|Flag|Generic|Protocol|ABC|namedtuple|NamedTuple|TypedDict)\b|dataclass|"
                   r"overload|contextmanager|Meta|metaclass=|_wall")
ATTRIBUTES_BARRED = set("""items keys values pop update append clear extend insert remove reverse setdefault sort args
encode decode hex fromhex format""".split())


def trees():
    return [(path, ast.parse(path.read_text())) for path in files()]


def walk(kind):
    """All nodes of the kind, each with the name of its file."""
    return [(path.name, node) for path, tree in trees() for node in ast.walk(tree) if isinstance(node, kind)]


def is_name(node, *names):
    return isinstance(node, ast.Name) and node.id in names


class StatementsTest(unittest.TestCase):
    def test_only_these_statements(self):
        for name, node in walk(ast.stmt):
            self.assertIsInstance(node, STATEMENTS, (name, node.lineno))

    def test_module_level(self):
        for path, tree in trees():
            for place, node in enumerate(tree.body):
                if isinstance(node, ast.Expr):
                    self.assertTrue(place == 0 and isinstance(node.value.value, str), path.name)
                elif isinstance(node, ast.Assign):
                    self.assertEqual(len(node.targets), 1)
                    self.assertIsInstance(node.targets[0], ast.Name)
                    for part in ast.walk(node.value):
                        self.assertNotIsInstance(part, (ast.Call, ast.ListComp, ast.BinOp, ast.Set), path.name)
                else:
                    self.assertIsInstance(node, (ast.ImportFrom, ast.FunctionDef, ast.ClassDef), path.name)

    def test_no_generators_and_no_decorators_but_properties(self):
        for name, node in walk((ast.Yield, ast.YieldFrom, ast.GeneratorExp, ast.Await, ast.NamedExpr, ast.Starred)):
            self.fail((name, node.lineno))
        for name, node in walk(ast.FunctionDef):
            self.assertTrue(all(is_name(each, "property") for each in node.decorator_list), (name, node.lineno))
            self.assertIsNone(node.returns)
        for name, node in walk(ast.ClassDef):
            self.assertEqual(node.decorator_list, [], name)

    def test_tries(self):
        errors = {node.name for name, node in walk(ast.ClassDef) if name == "errors.py"}
        for name, node in walk(ast.Try):
            self.assertEqual((node.finalbody, len(node.handlers)), ([], 1), name)
            self.assertTrue(is_name(node.handlers[0].type, *errors), name)
        for name, node in walk(ast.Raise):
            self.assertIsNone(node.cause)
            self.assertTrue(is_name(node.exc.func, "TypeError", *errors), (name, node.lineno))

    def test_is_stands_with_none_and_flags_only(self):
        for name, node in walk(ast.Compare):
            for sign, right in zip(node.ops, node.comparators):
                if isinstance(sign, (ast.Is, ast.IsNot)):
                    self.assertTrue(isinstance(right, ast.Constant) and right.value in (None, True, False), (name, node.lineno))

    def test_loops_do_not_modify_what_they_iterate_over(self):
        for name, loop in walk(ast.For):
            over = {ast.unparse(node) for node in ast.walk(loop.iter) if isinstance(node, (ast.Name, ast.Attribute, ast.Subscript))}
            for part in loop.body:
                for node in ast.walk(part):
                    if isinstance(node, ast.Call) and isinstance(node.func, ast.Attribute) and node.func.attr in CHANGING:
                        self.assertNotIn(ast.unparse(node.func.value), over, (name, node.lineno))
                    if isinstance(node, (ast.Assign, ast.AugAssign, ast.Delete)):
                        targets = [node.target] if isinstance(node, ast.AugAssign) else node.targets
                        for target in targets:
                            while isinstance(target, ast.Subscript):
                                target = target.value
                                self.assertNotIn(ast.unparse(target), over, (name, node.lineno))

    def test_sets_stand_in_a_few_places_only(self):
        for path, tree in trees():
            for node in ast.walk(tree):
                for child in ast.iter_child_nodes(node):
                    if isinstance(child, (ast.Set, ast.SetComp)) or isinstance(child, ast.Call) and is_name(child.func, "set"):
                        self.assertTrue(isinstance(node, ast.Call) and is_name(node.func, "len", "sorted"), (path.name, child.lineno))

    def test_what_is_iterated_at_once(self):
        lazy = ("zip", "enumerate", "range", "reversed", "map")
        for path, tree in trees():
            parents = {child: node for node in ast.walk(tree) for child in ast.iter_child_nodes(node)}
            for node in ast.walk(tree):
                if not isinstance(node, ast.Call):
                    continue
                views = isinstance(node.func, ast.Attribute) and node.func.attr in ("items", "keys", "values") and not node.args
                if is_name(node.func, *lazy) or views:
                    parent = parents[node]
                    right = isinstance(parent, (ast.For, ast.comprehension)) and parent.iter is node
                    right = right or isinstance(parent, ast.Call) and is_name(parent.func, "list", "tuple", "dict", "sorted")
                    self.assertTrue(right, (path.name, node.lineno))


class NamesTest(unittest.TestCase):
    def bound_names(self, function):
        """Parameters, local variables and nested functions of a function."""
        arguments = function.args
        found = [each.arg for each in arguments.args + arguments.kwonlyargs + arguments.posonlyargs]
        for node in ast.walk(function):
            if isinstance(node, ast.Name) and isinstance(node.ctx, ast.Store):
                found.append(node.id)
            if isinstance(node, ast.FunctionDef) and node is not function:
                found.append(node.name)
        return found

    def test_bound_names(self):
        for path, tree in trees():
            taken = {node.name for node in tree.body if isinstance(node, ast.ClassDef)}
            taken |= {alias.name for node in tree.body if isinstance(node, ast.ImportFrom) for alias in node.names}
            for node in ast.walk(tree):
                if isinstance(node, ast.FunctionDef):
                    for name in self.bound_names(node):
                        self.assertNotIn(name, taken | set(dir(builtins)) | NOT_AS_NAMES | NOWHERE, (path.name, node.lineno))
                        self.assertRegex(name, r"\A(_|_?[a-z][A-Za-z0-9_]*)\Z")

    def test_a_name_is_bound_once_at_module_level(self):
        for path, tree in trees():
            found = [node.name for node in tree.body if isinstance(node, (ast.FunctionDef, ast.ClassDef))]
            found += [alias.name for node in tree.body if isinstance(node, ast.ImportFrom) for alias in node.names]
            found += [node.targets[0].id for node in tree.body if isinstance(node, ast.Assign)]
            self.assertEqual(len(found), len(set(found)), path.name)
            self.assertFalse(set(found) & (set(dir(builtins)) | NOT_AS_NAMES | NOWHERE), path.name)

    def test_attributes_and_methods(self):
        own = {node.name for _, node in walk(ast.FunctionDef)}
        for name, node in walk(ast.Attribute):
            self.assertNotIn(node.attr, NOWHERE, name)
            self.assertFalse(node.attr.startswith("__") and node.attr != "__init__", (name, node.lineno))
            if isinstance(node.ctx, ast.Store):
                self.assertNotIn(node.attr, ATTRIBUTES_BARRED, name)
        for name, node in walk(ast.Call):
            if isinstance(node.func, ast.Attribute):
                self.assertIn(node.func.attr, METHODS | own, (name, node.lineno))

    def test_words_that_do_not_occur(self):
        for path, tree in trees():
            for node in ast.walk(tree):
                if isinstance(node, ast.Constant) and isinstance(node.value, str):
                    self.assertIsNone(WORDS.search(node.value), path.name)
                    self.assertNotIn("\x25", node.value, path.name)
            for line in path.read_text().split("\n"):
                self.assertIsNone(WORDS.search(line.split("#")[0]), (path.name, line))

    def test_escapes(self):
        for path in files():
            self.assertIsNone(re.search(r"\\[^nt\\'\"]", path.read_text()), path.name)


class ClassesTest(unittest.TestCase):
    def test_methods_with_two_underscores(self):
        for name, node in walk(ast.FunctionDef):
            if node.name.startswith("__"):
                self.assertIn(node.name, DUNDERS, name)

    def test_parts_of_classes(self):
        for name, node in walk(ast.ClassDef):
            methods = {part.name for part in node.body if isinstance(part, ast.FunctionDef)}
            for part in node.body:
                self.assertIsInstance(part, (ast.FunctionDef, ast.Expr), (name, node.name))
            stored = {part.attr for part in ast.walk(node)
                      if isinstance(part, ast.Attribute) and isinstance(part.ctx, ast.Store) and is_name(part.value, "self")}
            self.assertFalse(methods & stored, (name, node.name))
            self.assertTrue("__getitem__" not in methods or "__iter__" in methods)
            self.assertEqual(len(methods), len([part for part in node.body if isinstance(part, ast.FunctionDef)]))

    def test_no_name_is_a_method_here_and_an_attribute_there(self):
        methods = {part.name for _, node in walk(ast.ClassDef) for part in node.body if isinstance(part, ast.FunctionDef)}
        for name, node in walk(ast.Attribute):
            if isinstance(node.ctx, ast.Store):
                self.assertNotIn(node.attr, methods, (name, node.lineno))

    def test_operators_change_nothing(self):
        """Of the methods themselves; what they call is looked at by hand."""
        for name, node in walk(ast.FunctionDef):
            if node.name in DUNDERS - {"__init__", "__setitem__", "__ior__"} or node.decorator_list:
                for part in ast.walk(node):
                    self.assertNotIsInstance(part, (ast.Assign, ast.AugAssign, ast.Delete), (name, node.lineno))
                    if isinstance(part, ast.Attribute):
                        self.assertNotIn(part.attr, CHANGING, (name, node.lineno))
            if node.name == "__len__":
                self.assertTrue(is_name(node.body[-1].value.func, "len"))

    def test_classes_are_not_passed_on(self):
        classes = {node.name for _, node in walk(ast.ClassDef)}
        for path, tree in trees():
            parents = {child: node for node in ast.walk(tree) for child in ast.iter_child_nodes(node)}
            for node in ast.walk(tree):
                if is_name(node, *classes):
                    parent = parents[node]
                    right = isinstance(parent, (ast.ClassDef, ast.ExceptHandler)) or isinstance(parent, ast.Call) and (
                        parent.func is node or is_name(parent.func, "isinstance") and parent.args[1] is node)
                    self.assertTrue(right, (path.name, node.lineno))

    def test_defaults_are_plain(self):
        for name, node in walk((ast.FunctionDef, ast.Lambda)):
            for default in node.args.defaults + [each for each in node.args.kw_defaults if each]:
                self.assertIsInstance(default, ast.Constant, (name, node.lineno))
