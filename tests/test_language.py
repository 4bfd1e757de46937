"""The form of the package's files: the rules of LANGUAGE.md that can be seen file by file."""

import ast
import builtins
import os
import re
import unittest

PACKAGE = os.path.join(os.path.dirname(os.path.dirname(os.path.abspath(__file__))), "manywriters")

STATEMENTS = (
    ast.Assign, ast.AugAssign, ast.If, ast.While, ast.For, ast.Return, ast.Break, ast.Continue, ast.Pass, ast.Raise,
    ast.Try, ast.Expr, ast.FunctionDef,
)
EXPRESSIONS = (
    ast.Constant, ast.List, ast.Tuple, ast.Dict, ast.BinOp, ast.UnaryOp, ast.Compare, ast.BoolOp, ast.IfExp, ast.Call,
    ast.Attribute, ast.Subscript, ast.Slice, ast.ListComp, ast.Name, ast.Lambda, ast.JoinedStr, ast.FormattedValue,
)
BUILT_IN = (
    "len range enumerate zip min max sum abs sorted reversed int str bool list tuple dict set frozenset isinstance ord "
    "repr any all divmod Exception ValueError TypeError KeyError IndexError LookupError ZeroDivisionError "
    "ArithmeticError OverflowError RuntimeError NotImplementedError StopIteration"
).split()
METHODS = (
    "append clear copy count endswith extend find get index insert isalnum isalpha isdigit islower isspace isupper "
    "items join keys ljust lower lstrip partition pop remove replace reverse rfind rjust rpartition rsplit rstrip "
    "setdefault split splitlines startswith strip update upper values zfill bit_length"
).split()
WORDS = (
    "type typing typing_extensions enum Enum IntEnum StrEnum Flag IntFlag Generic Protocol ABC ABCMeta namedtuple "
    "NamedTuple TypedDict TYPE_CHECKING abstractmethod"
).split()
NOT_NAMES = (
    "register mro elements open input version_info with_traceback add_note attrgetter breakpoint builtins compile "
    "copyright credits delattr dir eval exec exit gc getattr globals hasattr help id importlib license locals "
    "methodcaller os quit setattr super vars sys format format_map chr print"
).split()
PYTHONS_OWN = {name for kind in (str, int, list, dict, set, bytes, tuple) for name in dir(kind)}


def files():
    return sorted(os.listdir(PACKAGE))


def source(name):
    with open(os.path.join(PACKAGE, name), encoding="utf-8") as file:
        return file.read()


def sources():
    return [(name, source(name)) for name in files() if name.endswith(".py")]


def trees():
    return [(name, ast.parse(text)) for name, text in sources()]


def nodes():
    return [(name, node) for name, tree in trees() for node in ast.walk(tree)]


def is_plain(node, above):
    if isinstance(node, ast.UnaryOp):
        return isinstance(node.op, ast.USub) and is_plain(node.operand, above)
    if isinstance(node, (ast.Tuple, ast.List)):
        return all(is_plain(inner, above) for inner in node.elts)
    if isinstance(node, ast.Dict):
        return all(is_plain(inner, above) for inner in node.keys + node.values)
    if isinstance(node, ast.Name):
        return node.id in above
    return isinstance(node, ast.Constant) and isinstance(node.value, (int, str, type(None)))


class Files(unittest.TestCase):
    def test_names(self):
        for name in files():
            if name != "__pycache__":
                self.assertRegex(name, r"^(__init__|[a-z][a-z0-9_]*)\.py$")

    def test_signs_and_sizes(self):
        for name, text in sources():
            self.assertRegex(text, r"^[ -~\n]*\Z", name)
            rows = text.split("\n")
            self.assertLessEqual(len(rows), 400, name)
            self.assertLessEqual(max(len(row) for row in rows), 120, name)

    def test_words(self):
        for name, text in sources():
            found = set(re.findall(r"\w+", text)) & set(WORDS)
            self.assertEqual(found, set(), name)
            self.assertNotRegex(text, "dataclass|overload|contextmanager")

    def test_the_top(self):
        for name, tree in trees():
            above = []
            for place, node in enumerate(tree.body):
                if isinstance(node, ast.Expr):
                    self.assertTrue(place == 0 and isinstance(node.value, ast.Constant), name)
                elif isinstance(node, ast.Assign):
                    self.assertTrue(is_plain(node.value, above), f"{name} {node.lineno}")
                    self.assertNotIn(node.targets[0].id, above)
                elif isinstance(node, ast.FunctionDef):
                    above.append(node.name)
                else:
                    self.assertIsInstance(node, (ast.ImportFrom, ast.ClassDef), f"{name} {node.lineno}")

    def test_imports(self):
        drawn = {}
        defined = {}
        for name, tree in trees():
            module = "manywriters." + name[:-3]
            drawn[module] = []
            defined[module] = [node.name for node in tree.body if isinstance(node, (ast.FunctionDef, ast.ClassDef))]
            defined[module] += [node.targets[0].id for node in tree.body if isinstance(node, ast.Assign)]
        for name, node in nodes():
            self.assertNotIsInstance(node, ast.Import)
            if isinstance(node, ast.ImportFrom):
                drawn["manywriters." + name[:-3]].append(node.module)
                for alias in node.names:
                    self.assertIn(alias.name, defined[node.module])
                    self.assertIsNone(alias.asname)
        while drawn:
            free = [module for module in drawn if not set(drawn[module]) & set(drawn)]
            self.assertNotEqual(free, [], "files draw from one another")
            for module in free:
                drawn.pop(module)

    def test_what_is_drawn_is_used(self):
        for name, tree in trees():
            used = {node.id for node in ast.walk(tree) if isinstance(node, ast.Name)}
            for node in tree.body:
                if isinstance(node, ast.ImportFrom):
                    self.assertEqual({alias.name for alias in node.names} - used, set(), name)


class Code(unittest.TestCase):
    def test_statements_and_expressions(self):
        for name, tree in trees():
            for node in ast.walk(tree):
                where = f"{name} {getattr(node, 'lineno', '')}"
                if isinstance(node, (ast.FunctionDef, ast.ClassDef)):
                    for inner in node.body:
                        if isinstance(inner, ast.Expr):
                            self.assertIsInstance(inner.value, ast.Call, where)
                elif isinstance(node, ast.stmt) and not isinstance(node, ast.ImportFrom):
                    self.assertIsInstance(node, STATEMENTS, where)
                elif isinstance(node, ast.expr):
                    self.assertIsInstance(node, EXPRESSIONS, where)

    def test_details(self):
        for name, node in nodes():
            where = f"{name} {getattr(node, 'lineno', '')}"
            if isinstance(node, ast.Assign):
                self.assertEqual(len(node.targets), 1, where)
                self.assertIsInstance(node.targets[0], (ast.Name, ast.Attribute, ast.Subscript), where)
            if isinstance(node, (ast.For, ast.While)):
                self.assertEqual(node.orelse, [], where)
            if isinstance(node, ast.Try):
                self.assertEqual(node.finalbody, [], where)
                self.assertTrue(all(isinstance(handler.type, ast.Name) for handler in node.handlers), where)
            if isinstance(node, ast.BinOp):
                self.assertNotIsInstance(node.op, (ast.Div, ast.Pow, ast.MatMult), where)
            if isinstance(node, ast.Compare) and isinstance(node.ops[0], (ast.Is, ast.IsNot)):
                self.assertIn(node.comparators[0].value, (None, True, False), where)
            if isinstance(node, ast.Constant):
                self.assertNotIsInstance(node.value, (float, bytes, complex), where)
                self.assertNotIn("%", str(node.value), where)
            if isinstance(node, ast.Raise):
                self.assertIsInstance(node.exc, ast.Call, where)

    def test_functions(self):
        for name, node in nodes():
            if isinstance(node, ast.FunctionDef):
                where = f"{name} {node.lineno}"
                self.assertLessEqual(node.end_lineno - node.lineno + 1, 40, where)
                self.assertEqual(node.decorator_list, [], where)
                self.assertIsNone(node.args.vararg or node.args.kwarg or node.returns, where)
                self.assertEqual(node.args.kwonlyargs + node.args.posonlyargs, [], where)

    def test_classes(self):
        methods = set()
        attributes = set()
        for name, node in nodes():
            if isinstance(node, ast.ClassDef):
                self.assertLessEqual(len(node.bases), 1)
                self.assertEqual(node.decorator_list, [])
                for inner in node.body:
                    self.assertIsInstance(inner, (ast.FunctionDef, ast.Pass))
                    if isinstance(inner, ast.FunctionDef) and inner.name != "__init__":
                        methods.add(inner.name)
            if isinstance(node, ast.Attribute) and isinstance(node.ctx, ast.Store):
                attributes.add(node.attr)
        self.assertEqual(methods & attributes, set())
        self.assertEqual((methods | attributes) & PYTHONS_OWN, set())
        for name, node in nodes():
            if isinstance(node, ast.Attribute):
                self.assertIn(node.attr, methods | attributes | set(METHODS), f"{name} {node.lineno}")

    def test_names(self):
        own = set(dir(builtins))
        for name, tree in trees():
            bound = {node.name for node in tree.body if isinstance(node, ast.ClassDef)}
            bound |= {alias.name for node in tree.body if isinstance(node, ast.ImportFrom) for alias in node.names}
            for node in ast.walk(tree):
                where = f"{name} {getattr(node, 'lineno', '')}"
                given = None
                if isinstance(node, ast.arg):
                    given = node.arg
                elif isinstance(node, ast.Name):
                    self.assertNotIn(node.id, NOT_NAMES, where)
                    if isinstance(node.ctx, ast.Store):
                        given = node.id
                    elif node.id in own:
                        self.assertIn(node.id, BUILT_IN, where)
                elif isinstance(node, ast.Attribute):
                    self.assertNotIn(node.attr, NOT_NAMES, where)
                if given is not None:
                    self.assertNotIn(given, bound | own | set(NOT_NAMES), where)
                    self.assertFalse(given.startswith("_"), where)


if __name__ == "__main__":
    unittest.main()
