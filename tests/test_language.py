"""The package keeps to the part of Python that it is written in; each test names the rules that it looks at."""

import ast
import builtins
import re
import unittest
from pathlib import Path

PACKAGE = Path(__file__).resolve().parent.parent / "stillpoint"
STATEMENTS = (
    ast.Assign, ast.AugAssign, ast.If, ast.While, ast.For, ast.Return, ast.Break, ast.Continue, ast.Pass, ast.Raise,
    ast.Try, ast.Expr, ast.FunctionDef, ast.ClassDef, ast.ImportFrom,
)
EXPRESSIONS = (
    ast.BoolOp, ast.BinOp, ast.UnaryOp, ast.Lambda, ast.IfExp, ast.Dict, ast.ListComp, ast.Compare, ast.Call,
    ast.JoinedStr, ast.FormattedValue, ast.Constant, ast.Attribute, ast.Subscript, ast.Name, ast.List, ast.Tuple,
    ast.Slice,
)
CALLED = (
    "len range enumerate zip min max sum abs sorted reversed int str bool list tuple dict isinstance ord repr any all "
    "divmod"
).split()
ERRORS = "ValueError KeyError IndexError LookupError ZeroDivisionError".split()
WORDS = (
    "type typing typing_extensions enum Enum IntEnum StrEnum Flag IntFlag Generic Protocol ABC ABCMeta namedtuple "
    "NamedTuple TypedDict TYPE_CHECKING abstractmethod"
).split()
NEVER = "register mro elements open input version_info with_traceback add_note format format_map".split()
OWN_METHODS = (
    "append clear copy count endswith extend find get index insert isalnum isalpha isdigit islower isspace isupper "
    "items join keys ljust lower lstrip partition pop remove replace reverse rfind rjust rpartition rsplit rstrip "
    "setdefault split splitlines startswith strip update upper values zfill bit_length"
).split()
WALKED = ("zip", "enumerate", "reversed", "range")
WALKED_METHODS = ("items", "keys", "values")
WALKERS = ("list", "tuple", "dict", "sorted", "sum", "any", "all", "enumerate", "zip", "min", "max")


def is_plain(node):
    if isinstance(node, (ast.List, ast.Tuple)):
        return all(is_plain(part) for part in node.elts)
    if isinstance(node, ast.Dict):
        return all(is_plain(part) for part in node.keys + node.values)
    return isinstance(node, ast.Constant) and type(node.value) in (int, str, bool, type(None))


class LanguageCase(unittest.TestCase):
    def setUp(self):
        self.texts = {path.stem: path.read_text("ascii") for path in sorted(PACKAGE.rglob("*.py"))}
        self.trees = {stem: ast.parse(text) for stem, text in self.texts.items()}
        self.place = None

    def nodes(self, *kinds):
        for stem, tree in self.trees.items():
            for node in ast.walk(tree):
                if isinstance(node, kinds):
                    self.place = f"{stem}.py, line {getattr(node, 'lineno', 0)}"
                    yield node
        self.place = None

    def _formatMessage(self, msg, standardMsg):
        return super()._formatMessage(msg or self.place, standardMsg)

    def functions(self):
        return self.nodes(ast.FunctionDef)

    def values_and_methods(self):
        values, methods = set(), set()
        for node in self.nodes(ast.ClassDef):
            methods.update(part.name for part in node.body if isinstance(part, ast.FunctionDef))
        for node in self.nodes(ast.Attribute):
            if isinstance(node.ctx, ast.Store):
                values.add(node.attr)
        return values, methods


class FilesAndTexts(LanguageCase):
    def test_files_signs_sizes_and_words(self):
        """L1, L10, L14, L17, L27"""
        for stem, text in self.texts.items():
            with self.subTest(file=stem):
                self.assertRegex(stem, r"\A[a-z_][a-z0-9_]*\Z")
                self.assertTrue(stem == "__init__" or stem not in vars(builtins))
                self.assertTrue(all(sign == "\n" or " " <= sign <= "~" for sign in text))
                lines = text.split("\n")
                self.assertLessEqual(len(lines), 400)
                self.assertLessEqual(max(len(line) for line in lines), 120)
                self.assertEqual(set(re.findall(r"\w+", text)) & set(WORDS), set())
                self.assertNotRegex(text, "dataclass|overload|contextmanager")
        for node in self.nodes(ast.Constant):
            if isinstance(node.value, str):
                self.assertNotIn("%", node.value)

    def test_the_top_of_a_file(self):
        """L2, L3, L15, L16"""
        tops = {}
        for stem, tree in self.trees.items():
            names = []
            for node in tree.body:
                with self.subTest(file=stem, line=node.lineno):
                    if isinstance(node, ast.Assign):
                        self.assertTrue(is_plain(node.value))
                        self.assertIsInstance(node.targets[0], ast.Name)
                        names.append(node.targets[0].id)
                    elif isinstance(node, ast.ImportFrom):
                        names.extend(alias.name for alias in node.names)
                    elif isinstance(node, (ast.FunctionDef, ast.ClassDef)):
                        names.append(node.name)
                    else:
                        self.assertTrue(node == tree.body[0] and isinstance(node.value.value, str))
            self.assertEqual(len(names), len(set(names)))
            tops[stem] = names
        drawn = {stem: set() for stem in tops}
        for stem, tree in self.trees.items():
            for node in ast.walk(tree):
                if isinstance(node, ast.ImportFrom):
                    source = node.module.split(".")[1]
                    drawn[stem].add(source)
                    own = [part.name for part in self.trees[source].body if hasattr(part, "name")]
                    own += [part.targets[0].id for part in self.trees[source].body if isinstance(part, ast.Assign)]
                    for alias in node.names:
                        self.assertIsNone(alias.asname)
                        self.assertIn(alias.name, own)
        while drawn:
            free = [stem for stem in drawn if not drawn[stem] & set(drawn)]
            self.assertTrue(free, "files draw from one another")
            drawn = {stem: drawn[stem] for stem in drawn if stem not in free}


class Statements(LanguageCase):
    def test_statements(self):
        """L6"""
        for node in self.nodes(ast.stmt):
            self.assertIsInstance(node, STATEMENTS)
            if isinstance(node, ast.Assign):
                self.assertEqual(len(node.targets), 1)
                self.assertNotIsInstance(node.targets[0], (ast.Tuple, ast.List))
            if isinstance(node, (ast.For, ast.While)):
                self.assertEqual(node.orelse, [])
            if isinstance(node, ast.Try):
                self.assertEqual(node.finalbody, [])
            if isinstance(node, ast.Expr):
                self.assertIsInstance(node.value, (ast.Call, ast.Constant))

    def test_functions(self):
        """L4, L10, L21, L28"""
        for node in self.functions():
            args = node.args
            self.assertEqual((args.vararg, args.kwarg, args.kwonlyargs, args.posonlyargs), (None, None, [], []))
            self.assertEqual((node.decorator_list, node.returns), ([], None))
            self.assertTrue(all(arg.annotation is None for arg in args.args))
            self.assertTrue(all(is_plain(value) for value in args.defaults))
            self.assertLessEqual(node.end_lineno - node.lineno + 1, 40)
            if node.name == "__init__":
                self.assertFalse(any(isinstance(part, ast.Return) for part in ast.walk(node)))

    def test_classes(self):
        """L5, L18, L26"""
        for node in self.nodes(ast.ClassDef):
            self.assertLessEqual(len(node.bases), 1)
            self.assertEqual((node.decorator_list, node.keywords), ([], []))
            self.assertTrue(all(isinstance(part, (ast.FunctionDef, ast.Pass)) for part in node.body))
            methods = [part.name for part in node.body if isinstance(part, ast.FunctionDef)]
            self.assertEqual(len(methods), len(set(methods)))
        values, methods = self.values_and_methods()
        self.assertEqual(values & methods, set())
        taken = {name for kind in (str, int, list, dict, set, bytes, tuple) for name in vars(kind)} - set(OWN_METHODS)
        self.assertEqual((values | methods) & taken - {"__init__"}, set())
        self.assertEqual(values & set(OWN_METHODS) - {"count", "index", "find", "get", "copy"}, set())

    def test_errors(self):
        """L19"""
        own = [node.name for node in self.trees["errors"].body if isinstance(node, ast.ClassDef)]
        for node in self.nodes(ast.ExceptHandler):
            self.assertIsInstance(node.type, ast.Name)
            self.assertIn(node.type.id, own + ["KeyError"])
        for node in self.nodes(ast.Raise):
            self.assertIsInstance(node.exc, ast.Call)
            self.assertIn(node.exc.func.id, own)


class Names(LanguageCase):
    def test_names(self):
        """L8, L12, L15, L17"""
        for node in self.nodes(ast.Name, ast.Attribute, ast.arg, ast.FunctionDef, ast.ClassDef):
            fields = ("id", "attr", "arg", "name")
            name = [getattr(node, field) for field in fields if isinstance(getattr(node, field, None), str)][0]
            self.assertNotIn(name, NEVER)
            if name != "__init__":
                self.assertRegex(name, r"\A[A-Za-z][A-Za-z0-9_]*\Z")
        for node in self.nodes(ast.Name):
            if hasattr(builtins, node.id):
                self.assertIn(node.id, CALLED + ERRORS)
                self.assertIsInstance(node.ctx, ast.Load)

    def test_locals(self):
        """L15"""
        for stem, tree in self.trees.items():
            taken = set(vars(builtins))
            for node in tree.body:
                if isinstance(node, ast.ImportFrom):
                    taken.update(alias.name for alias in node.names)
                if isinstance(node, ast.ClassDef):
                    taken.add(node.name)
            for node in ast.walk(tree):
                with self.subTest(file=stem, line=getattr(node, "lineno", 0)):
                    if isinstance(node, ast.arg):
                        self.assertNotIn(node.arg, taken)
                    if isinstance(node, ast.Name) and isinstance(node.ctx, ast.Store):
                        self.assertNotIn(node.id, taken)


class Expressions(LanguageCase):
    def test_expressions(self):
        """L7, L20, L21, L24, L27"""
        for node in self.nodes(ast.expr):
            self.assertIsInstance(node, EXPRESSIONS)
            if isinstance(node, ast.Constant):
                self.assertIn(type(node.value), (int, str, bool, type(None)))
            if isinstance(node, ast.ListComp):
                self.assertEqual(len(node.generators), 1)
                self.assertLessEqual(len(node.generators[0].ifs), 1)
            if isinstance(node, ast.BinOp):
                self.assertNotIsInstance(node.op, (ast.Div, ast.MatMult))
                if isinstance(node.op, ast.Pow):
                    self.assertIsInstance(node.right, ast.Constant)
            if isinstance(node, ast.FormattedValue):
                self.assertIsInstance(node.value, ast.Name)
                self.assertIsNone(node.format_spec)
            if isinstance(node, ast.Compare) and any(isinstance(op, (ast.Is, ast.IsNot)) for op in node.ops):
                self.assertTrue(isinstance(node.comparators[0], ast.Constant))

    def test_calls(self):
        """L22, L25, L26"""
        values, methods = self.values_and_methods()
        for node in self.nodes(ast.Call):
            self.assertEqual(node.keywords, [])
            if isinstance(node.func, ast.Attribute):
                self.assertIn(node.func.attr, set(OWN_METHODS) | methods)
        called = [id(node.func) for node in self.nodes(ast.Call)]
        for node in self.nodes(ast.Name):
            if node.id in CALLED:
                self.assertTrue(id(node) in called)
        for node in self.nodes(ast.Attribute):
            if id(node) not in called:
                self.assertIn(node.attr, values)

    def test_walked_at_once(self):
        """L23"""
        good = set()
        for node in self.nodes(ast.For, ast.comprehension):
            good.add(id(node.iter))
        for node in self.nodes(ast.Call):
            if isinstance(node.func, ast.Name) and node.func.id in WALKERS and node.args:
                good.add(id(node.args[0]))
        for node in self.nodes(ast.Call):
            name = getattr(node.func, "id", getattr(node.func, "attr", None))
            walked = WALKED if isinstance(node.func, ast.Name) else WALKED_METHODS
            if name in walked:
                self.assertTrue(id(node) in good)


if __name__ == "__main__":
    unittest.main()
