"""The package keeps to its small part of Python: what of that can be read off its files."""

import ast
import builtins
import pathlib
import re
import unittest

PACKAGE = pathlib.Path(__file__).resolve().parent.parent / "manyhandsheet"

NODES = """Module Expr Constant ImportFrom alias FunctionDef arguments arg ClassDef Assign AugAssign If While For Return
Break Continue Pass Raise Try ExceptHandler Call keyword Name
Attribute Subscript Slice List Tuple Dict BinOp UnaryOp BoolOp
Compare IfExp ListComp comprehension Lambda Load Store Add Sub Mult FloorDiv Mod Pow BitAnd BitOr BitXor LShift RShift
Invert Not USub And Or Eq NotEq Lt LtE Gt GtE In NotIn Is IsNot JoinedStr FormattedValue""".split()

OWN_NAMES = """len range enumerate zip min max sum abs sorted reversed int str bool list tuple dict set frozenset
isinstance
ord repr any all divmod Exception ValueError KeyError IndexError LookupError ZeroDivisionError ArithmeticError
OverflowError RuntimeError NotImplementedError AttributeError StopIteration""".split()

METHODS = """append clear copy count endswith extend find get index insert isalnum isalpha isdigit islower isspace
isupper
items join keys ljust lower lstrip partition pop remove replace reverse rfind rjust rpartition rsplit rstrip setdefault
split splitlines startswith strip update upper values zfill bit_length""".split()

WORDS = """type typing typing_extensions enum Enum IntEnum StrEnum Flag IntFlag Generic Protocol ABC ABCMeta namedtuple
NamedTuple TypedDict TYPE_CHECKING abstractmethod""".split()


def package_files():
    return sorted(PACKAGE.glob("*.py"))


def nodes():
    for path in package_files():
        for node in ast.walk(ast.parse(path.read_text())):
            yield path, node


def top_names(path, imports=True):
    bound = []
    for node in ast.parse(path.read_text()).body:
        if isinstance(node, (ast.FunctionDef, ast.ClassDef)):
            bound.append(node.name)
        if isinstance(node, ast.Assign):
            bound.append(node.targets[0].id)
        if isinstance(node, ast.ImportFrom) and imports:
            bound += [name.name for name in node.names]
    return bound


class Language(unittest.TestCase):
    def test_only_plain_files(self):
        lying = [path.name for path in PACKAGE.iterdir() if path.name != "__pycache__"]
        self.assertIn("__init__.py", lying)
        for name in lying:
            self.assertRegex(name, r"^(__init__|[a-z][a-z0-9_]*)\.py$")

    def test_signs_and_sizes(self):
        for path in package_files():
            text = path.read_bytes().decode("ascii")
            self.assertRegex(text, r"\A[ -~\n]*\Z", path)
            lines = text.split("\n")
            self.assertLessEqual(len(lines), 400, path)
            self.assertLessEqual(max(len(line) for line in lines), 120, path)
            words = re.findall(r"\w+", text)
            self.assertEqual([word for word in words if word in WORDS], [], path)
            self.assertNotRegex(text, "dataclass|overload|contextmanager", path)

    def test_only_the_allowed_forms(self):
        for path, node in nodes():
            where = (path.name, getattr(node, "lineno", 0), type(node).__name__)
            self.assertIn(type(node).__name__, NODES, where)
            if isinstance(node, (ast.FunctionDef, ast.ClassDef)):
                self.assertEqual(node.decorator_list, [], where)
            if isinstance(node, ast.FunctionDef):
                self.assertLessEqual(node.end_lineno - node.lineno + 1, 40, where)
                self.assertIsNone(node.returns, where)
            if isinstance(node, ast.arguments):
                self.assertEqual((node.vararg, node.kwarg, node.kwonlyargs), (None, None, []), where)
            if isinstance(node, ast.Module):
                rest = node.body[1:] if ast.get_docstring(node) else node.body
                bare = [inner for part in rest for inner in ast.walk(part) if isinstance(inner, ast.Expr)]
                self.assertTrue(all(isinstance(inner.value, ast.Call) for inner in bare), where)
            if isinstance(node, ast.Assign):
                self.assertEqual(len(node.targets), 1, where)
            if isinstance(node, (ast.For, ast.While)):
                self.assertEqual(node.orelse, [], where)
            if isinstance(node, ast.Constant):
                self.assertIn(type(node.value), (int, str, bool, type(None)), where)

    def test_only_the_allowed_names(self):
        own = [node.name for _, node in nodes() if isinstance(node, (ast.FunctionDef, ast.ClassDef))]
        for path, node in nodes():
            if isinstance(node, ast.ImportFrom):
                self.assertTrue(node.module.startswith("manyhandsheet."), node.module)
            if isinstance(node, ast.Name) and hasattr(builtins, node.id):
                self.assertIn(node.id, OWN_NAMES, path)
                self.assertIsInstance(node.ctx, ast.Load, path)
            if isinstance(node, ast.arg):
                self.assertFalse(hasattr(builtins, node.arg), node.arg)
            if isinstance(node, ast.Name):
                self.assertFalse(node.id.startswith("_"), node.id)
            if isinstance(node, ast.Call) and isinstance(node.func, ast.Attribute):
                self.assertIn(node.func.attr, METHODS + own, path)

    def test_each_name_once_at_the_top(self):
        for path in package_files():
            bound = top_names(path)
            self.assertEqual(len(bound), len(set(bound)), path)

    def test_no_local_is_called_like_a_class_or_an_import(self):
        for path in package_files():
            body = ast.parse(path.read_text())
            taken = [node.name for node in ast.walk(body) if isinstance(node, (ast.ClassDef, ast.alias))]
            held = [node.arg for node in ast.walk(body) if isinstance(node, ast.arg)]
            stored = [node for node in ast.walk(body) if isinstance(node, ast.Name) and isinstance(node.ctx, ast.Store)]
            held += [node.id for node in stored]
            self.assertEqual(set(taken) & set(held), set(), path)

    def test_imports_are_from_the_file_that_defines_the_name(self):
        for path, node in nodes():
            if isinstance(node, ast.ImportFrom):
                source = PACKAGE / (node.module.split(".")[1] + ".py")
                defined = top_names(source, imports=False)
                for name in node.names:
                    self.assertIn(name.name, defined, path)
                    self.assertIsNone(name.asname, path)

    def test_no_name_is_a_method_and_a_value(self):
        methods = []
        stored = []
        for _, node in nodes():
            if isinstance(node, ast.ClassDef):
                methods += [part.name for part in node.body if isinstance(part, ast.FunctionDef)]
            if isinstance(node, ast.Attribute) and isinstance(node.ctx, ast.Store):
                stored.append(node.attr)
        self.assertEqual(set(methods) & set(stored), set())
