"""The form of the package's files: those rules of the language part that can be seen in a file's text and tree."""

import ast
import builtins
import pathlib
import re
import unittest

PACKAGE = pathlib.Path(__file__).resolve().parent.parent / 'treatyforce'
FILES = sorted(path for path in PACKAGE.rglob('*') if '__pycache__' not in path.parts)

NODES = '''Module FunctionDef ClassDef arguments arg Return Assign AugAssign For While If Raise Try ExceptHandler
ImportFrom alias Expr Pass Break Continue BoolOp And Or BinOp Add Sub Mult FloorDiv Mod Pow LShift RShift BitOr BitXor
BitAnd UnaryOp Not USub Invert Lambda IfExp Dict ListComp comprehension Compare Eq NotEq Lt LtE Gt GtE Is IsNot In NotIn
Call keyword JoinedStr FormattedValue Constant Attribute Subscript Slice Name Load Store List Tuple'''.split()
BUILTINS = '''len range enumerate zip min max sum abs sorted reversed int str bool list tuple dict set frozenset isinstance
ord repr any all divmod Exception ValueError TypeError KeyError IndexError LookupError ZeroDivisionError ArithmeticError
OverflowError RuntimeError NotImplementedError AttributeError StopIteration'''.split()
METHODS = '''append clear copy count endswith extend find get index insert isalnum isalpha isdigit islower isspace isupper
items join keys ljust lower lstrip partition pop remove replace reverse rfind rjust rpartition rsplit rstrip setdefault
split splitlines startswith strip update upper values zfill bit_length'''.split()
WORDS = '''type typing typing_extensions enum Enum IntEnum StrEnum Flag IntFlag Generic Protocol ABC ABCMeta namedtuple
NamedTuple TypedDict TYPE_CHECKING abstractmethod'''.split()
LONGER = ['dataclass', 'overload', 'contextmanager']


def trees():
    return [(path, ast.parse(path.read_text('utf-8'))) for path in FILES]


def nodes():
    return [(path, node) for path, tree in trees() for node in ast.walk(tree)]


def bound_names(tree):
    """All names that a file gives to something, but attributes."""
    names = [node.id for node in ast.walk(tree) if isinstance(node, ast.Name) and isinstance(node.ctx, ast.Store)]
    names += [node.arg for node in ast.walk(tree) if isinstance(node, ast.arg)]
    return names + top_defs(tree) + [node.name for node in ast.walk(tree) if isinstance(node, ast.alias)]


def top_defs(tree):
    return [node.name for node in ast.walk(tree) if isinstance(node, (ast.FunctionDef, ast.ClassDef))]


class Form(unittest.TestCase):
    def test_files(self):
        self.assertIn('__init__.py', [path.name for path in FILES])
        for path in FILES:
            self.assertRegex(path.name, r'^[a-z0-9_]+\.py$')

    def test_text_and_size(self):
        for path in FILES:
            text = path.read_text('utf-8')
            self.assertRegex(text, r'^[ -~\n]*\Z', path)
            lines = text.split('\n')
            self.assertLessEqual(len(lines), 400, path)
            self.assertLessEqual(max(len(line) for line in lines), 120, path)

    def test_words(self):
        for path in FILES:
            text = path.read_text('utf-8')
            self.assertEqual([word for word in re.findall(r'\w+', text) if word in WORDS], [], path)
            self.assertEqual([word for word in LONGER if word in text], [], path)

    def test_functions_are_short_and_plain(self):
        for path, node in nodes():
            if isinstance(node, ast.FunctionDef):
                self.assertLessEqual(node.end_lineno - node.lineno + 1, 40, (path, node.name))
                self.assertEqual(node.decorator_list, [])
                self.assertIsNone(node.args.vararg)
                self.assertIsNone(node.args.kwarg)
                self.assertEqual(node.args.kwonlyargs, [])

    def test_statements_and_expressions(self):
        for path, node in nodes():
            self.assertIn(node.__class__.__name__, NODES, (path, getattr(node, 'lineno', 0)))
            if isinstance(node, ast.Assign):
                self.assertEqual(len(node.targets), 1)
            if isinstance(node, (ast.For, ast.While)):
                self.assertEqual(node.orelse, [])
            if isinstance(node, ast.Constant):
                self.assertIn(node.value.__class__.__name__, ['int', 'str', 'bool', 'NoneType'])
            if isinstance(node, ast.BinOp) and isinstance(node.op, ast.Pow):
                self.assertIsInstance(node.right, ast.Constant)
            if isinstance(node, ast.ListComp):
                self.assertEqual(len(node.generators), 1)

    def test_imports(self):
        for path, tree in trees():
            for node in ast.walk(tree):
                if isinstance(node, ast.ImportFrom):
                    self.assertEqual(node.level, 0)
                    self.assertTrue(node.module.startswith('treatyforce.'), path)
                    source = PACKAGE / (node.module.split('.')[1] + '.py')
                    defined = bound_names(ast.parse(source.read_text('utf-8')))
                    for one in node.names:
                        self.assertIn(one.name, defined)
                        self.assertIsNone(one.asname)

    def test_names(self):
        for path, tree in trees():
            bound = bound_names(tree)
            for name in bound:
                self.assertNotIn(name, dir(builtins), path)
                self.assertTrue(name == '__init__' or not name.startswith('_'), name)
            for node in ast.walk(tree):
                if isinstance(node, ast.Name) and node.id not in bound:
                    self.assertIn(node.id, BUILTINS, path)

    def test_methods(self):
        for path, node in nodes():
            if isinstance(node, ast.Call) and isinstance(node.func, ast.Attribute):
                self.assertIn(node.func.attr, METHODS, path)

    def test_is_stands_beside_none_true_false(self):
        for path, node in nodes():
            if isinstance(node, ast.Compare) and isinstance(node.ops[0], (ast.Is, ast.IsNot)):
                self.assertIn(ast.unparse(node.comparators[0]), ['None', 'True', 'False'], path)
