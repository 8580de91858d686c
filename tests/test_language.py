"""The package's files keep to the part of Python that the program is written in."""

import ast
import builtins
import io
import keyword
import pathlib
import re
import tokenize
import unittest

PACKAGE = pathlib.Path(__file__).resolve().parent.parent / "doorward"
FILES = sorted(path for path in PACKAGE.iterdir() if path.name != "__pycache__")

NODES = (
    "Module FunctionDef ClassDef Return Assign AugAssign For While If Raise Try ImportFrom Expr Pass Break Continue "
    "BoolOp BinOp UnaryOp Lambda IfExp Dict List Tuple ListComp comprehension Compare Call Attribute Subscript Slice "
    "Name Constant JoinedStr FormattedValue ExceptHandler arguments arg keyword alias Load Store And Or Not Add Sub "
    "Mult FloorDiv Mod Pow LShift RShift BitOr BitXor BitAnd Invert USub UAdd Eq NotEq Lt LtE Gt GtE Is IsNot In NotIn"
).split()
BUILTINS = (
    "len range enumerate zip min max sum abs sorted reversed int str bool list tuple dict set frozenset isinstance ord "
    "repr any all divmod Exception ValueError TypeError KeyError IndexError LookupError ZeroDivisionError "
    "ArithmeticError OverflowError RuntimeError NotImplementedError StopIteration"
).split()
METHODS = (
    "append clear copy count endswith extend find get index insert isalnum isalpha isdigit islower isspace isupper "
    "items join keys ljust lower lstrip partition pop remove replace reverse rfind rjust rpartition rsplit rstrip "
    "setdefault split splitlines startswith strip update upper values zfill bit_length"
).split()
DUNDER_METHODS = "__init__ __eq__ __repr__ __str__ __len__".split()
WORDS_NOWHERE = (
    "type typing typing_extensions enum Enum IntEnum StrEnum Flag IntFlag Generic Protocol ABC ABCMeta namedtuple "
    "NamedTuple TypedDict TYPE_CHECKING abstractmethod"
).split()
PARTS_NOWHERE = "dataclass overload contextmanager".split()
NAMES_NOWHERE = "register mro elements open input version_info with_traceback add_note format format_map".split()
PLAIN_NAME = re.compile("[A-Za-z][A-Za-z0-9_]*")


def python_names():
    """The names that Python's own values have as methods or values."""
    names = set()
    for value in ("", 0, [], {}, set(), b"", ()):
        names.update(dir(value))
    return names


class LanguageTest(unittest.TestCase):
    @classmethod
    def setUpClass(cls):
        cls.texts = {path.name: path.read_bytes().decode("utf-8") for path in FILES}
        cls.trees = {name: ast.parse(text) for name, text in cls.texts.items()}

    def nodes(self, *kinds):
        for name, tree in self.trees.items():
            for node in ast.walk(tree):
                if isinstance(node, kinds):
                    yield "{}:{}".format(name, getattr(node, "lineno", 0)), node

    def test_files(self):
        self.assertIn("__init__.py", self.texts)
        self.assertIn("porter.py", self.texts)
        for path in FILES:
            self.assertTrue(path.is_file(), path)
            self.assertRegex(path.name, r"^(__init__|[a-z][a-z0-9_]*)\.py$")
            self.assertNotIn(path.stem, dir(builtins))
            self.assertFalse(path.stem.startswith("test") or path.stem in ("site", "conftest"))

    def test_signs_and_sizes(self):
        for name, text in self.texts.items():
            self.assertLessEqual(len(text.splitlines()), 400, name)
            for line in text.split("\n"):
                self.assertLessEqual(len(line), 120, name)
                self.assertTrue(all(" " <= sign <= "~" for sign in line), (name, line))
        for where, node in self.nodes(ast.FunctionDef):
            self.assertLessEqual(node.end_lineno - node.lineno + 1, 40, where)

    def test_words_that_stand_nowhere(self):
        for name, text in self.texts.items():
            words = re.findall("[A-Za-z0-9_]+", text)
            for word in WORDS_NOWHERE:
                self.assertNotIn(word, words, name)
            for part in PARTS_NOWHERE:
                self.assertNotIn(part, text, name)

    def test_kinds_of_nodes(self):
        for where, node in self.nodes(ast.AST):
            self.assertIn(node.__class__.__name__, NODES, where)

    def test_statements(self):
        for where, node in self.nodes(ast.Assign):
            self.assertEqual(len(node.targets), 1, where)
            self.assertNotIsInstance(node.targets[0], (ast.Tuple, ast.List), where)
        for where, node in self.nodes(ast.For, ast.While):
            self.assertEqual(node.orelse, [], where)
        for where, node in self.nodes(ast.Try):
            self.assertEqual(node.finalbody, [], where)
        for where, node in self.nodes(ast.ExceptHandler):
            self.assertIsInstance(node.type, ast.Name, where)
            self.assertNotIn(node.type.id, dir(builtins), where)
        for where, node in self.nodes(ast.Raise):
            self.assertIsInstance(node.exc, ast.Call, where)
        for where, node in self.nodes(ast.Expr):
            self.assertIsInstance(node.value, (ast.Call, ast.Constant), where)
            if isinstance(node.value, ast.Constant):
                self.assertIsInstance(node.value.value, str, where)

    def test_functions_and_classes(self):
        for where, node in self.nodes(ast.FunctionDef, ast.ClassDef):
            self.assertEqual(node.decorator_list, [], where)
            self.assertIsNotNone(ast.get_docstring(node) or node.name == "__init__" or None, where)
        for where, node in self.nodes(ast.arguments):
            self.assertIsNone(node.vararg, where)
            self.assertIsNone(node.kwarg, where)
            self.assertEqual(node.kwonlyargs + node.posonlyargs, [], where)
        for where, node in self.nodes(ast.ClassDef):
            self.assertLessEqual(len(node.bases), 1, where)
            for part in node.body:
                self.assertIsInstance(part, (ast.FunctionDef, ast.Expr), where)

    def test_values(self):
        for where, node in self.nodes(ast.Constant):
            self.assertIn(node.value.__class__, (int, str, bool, None.__class__), where)
            if isinstance(node.value, str):
                self.assertNotIn("%", node.value, where)
        for where, node in self.nodes(ast.BinOp):
            if isinstance(node.op, ast.Pow):
                self.assertIsInstance(node.right, ast.Constant, where)
        for where, node in self.nodes(ast.Compare):
            for operator, right in zip(node.ops, node.comparators):
                if isinstance(operator, (ast.Is, ast.IsNot)):
                    self.assertIn(getattr(right, "value", "other"), (None, True, False), where)
        for where, node in self.nodes(ast.ListComp):
            self.assertEqual(len(node.generators), 1, where)
            self.assertLessEqual(len(node.generators[0].ifs), 1, where)

    def test_escapes(self):
        for name, text in self.texts.items():
            for token in tokenize.generate_tokens(io.StringIO(text).readline):
                if token.type == tokenize.STRING:
                    for escape in re.findall(r"\\(.)", token.string):
                        self.assertIn(escape, "nt\\'\"", name)

    def test_imports(self):
        drawn = {}
        for name, tree in self.trees.items():
            drawn[name] = []
            for node in ast.walk(tree):
                if isinstance(node, ast.ImportFrom):
                    self.assertEqual(node.level, 0, name)
                    self.assertIn(node, tree.body, name)
                    self.assertTrue(node.module.startswith("doorward."), name)
                    source = node.module[len("doorward."):] + ".py"
                    drawn[name].append(source)
                    for part in node.names:
                        self.assertIsNone(part.asname, name)
                        self.assertIn(part.name, self.defined(source), name)
        done = []
        while len(done) < len(drawn):
            free = [name for name in drawn if name not in done and set(drawn[name]) <= set(done)]
            self.assertNotEqual(free, [], "files draw from one another")
            done.extend(free)

    def defined(self, name):
        """The names that a file's top binds itself, in order."""
        names = []
        for node in self.trees[name].body:
            if isinstance(node, (ast.FunctionDef, ast.ClassDef)):
                names.append(node.name)
            elif isinstance(node, ast.Assign):
                names.append(node.targets[0].id)
        return names

    def test_the_top_of_a_file(self):
        allowed = (ast.Constant, ast.Tuple, ast.List, ast.Dict, ast.Load, ast.UnaryOp, ast.USub)
        for name, tree in self.trees.items():
            names = self.defined(name)
            self.assertEqual(len(names), len(set(names)), name)
            self.assertIsNotNone(ast.get_docstring(tree), name)
            for node in tree.body[1:]:
                self.assertIsInstance(node, (ast.FunctionDef, ast.ClassDef, ast.Assign, ast.ImportFrom), name)
                if isinstance(node, ast.Assign):
                    for part in ast.walk(node.value):
                        self.assertIsInstance(part, allowed, name)

    def test_names(self):
        for name, tree in self.trees.items():
            for node in ast.walk(tree):
                if isinstance(node, ast.ClassDef):
                    self.check_bound_name(node.name, name)
                elif isinstance(node, ast.FunctionDef):
                    if node.name not in DUNDER_METHODS:
                        self.check_bound_name(node.name, name)
                elif isinstance(node, ast.arg):
                    self.check_bound_name(node.arg, name)
                elif isinstance(node, ast.Name) and isinstance(node.ctx, ast.Store):
                    self.check_bound_name(node.id, name)

    def check_bound_name(self, bound, where):
        self.assertRegex(bound, PLAIN_NAME, where)
        self.assertIsNotNone(PLAIN_NAME.fullmatch(bound), (where, bound))
        self.assertNotIn(bound, dir(builtins), where)
        self.assertNotIn(bound, NAMES_NOWHERE, where)
        self.assertFalse(keyword.issoftkeyword(bound), (where, bound))

    def test_locals_are_not_called_like_classes_or_imports(self):
        for name, tree in self.trees.items():
            taken = []
            for node in tree.body:
                if isinstance(node, ast.ClassDef):
                    taken.append(node.name)
                elif isinstance(node, ast.ImportFrom):
                    taken.extend(part.name for part in node.names)
            for node in ast.walk(tree):
                if isinstance(node, ast.arg):
                    self.assertNotIn(node.arg, taken, name)
                elif isinstance(node, ast.Name) and isinstance(node.ctx, ast.Store):
                    self.assertNotIn(node.id, taken, name)

    def test_pythons_own_names(self):
        for where, node in self.nodes(ast.Name):
            if node.id in dir(builtins):
                self.assertIn(node.id, BUILTINS, where)

    def test_methods_and_values(self):
        methods = set()
        values = set()
        for where, node in self.nodes(ast.ClassDef):
            methods.update(part.name for part in node.body if isinstance(part, ast.FunctionDef))
        for where, node in self.nodes(ast.Attribute):
            if isinstance(node.ctx, ast.Store):
                values.add(node.attr)
        self.assertEqual(methods & values, set())
        own = (methods | values) - set(DUNDER_METHODS)
        self.assertEqual(own & python_names(), set())
        for where, node in self.nodes(ast.Attribute):
            self.assertIn(node.attr, own | set(METHODS), where)


if __name__ == "__main__":
    unittest.main()
