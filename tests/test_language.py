"""The package keeps to the part of Python that it may use: what of that can be seen line by line."""

import ast
import builtins
import pathlib
import re
import unittest

PACKAGE = pathlib.Path(__file__).resolve().parent.parent / "matchkeeper"

NODES = (
    ast.Module, ast.Expr, ast.Constant, ast.ImportFrom, ast.alias, ast.FunctionDef, ast.ClassDef, ast.arguments,
    ast.arg, ast.Assign, ast.AugAssign, ast.If, ast.While, ast.For, ast.Return, ast.Break, ast.Continue, ast.Pass,
    ast.Name, ast.Attribute, ast.Subscript, ast.Slice, ast.Call, ast.List, ast.Tuple, ast.Dict, ast.ListComp,
    ast.comprehension, ast.IfExp, ast.BoolOp, ast.UnaryOp, ast.BinOp, ast.Compare, ast.expr_context, ast.boolop,
    ast.unaryop, ast.operator, ast.cmpop,
)

OWN_NAMES = """len range enumerate zip min max sum abs sorted reversed int str bool list tuple dict set isinstance
any all divmod""".split()

OWN_METHODS = """append clear copy count endswith extend find get index insert items join keys pop remove replace
reverse setdefault split startswith strip update values bit_length""".split()

WORDS = """type typing typing_extensions enum Enum IntEnum StrEnum Flag IntFlag Generic Protocol ABC ABCMeta
namedtuple NamedTuple TypedDict TYPE_CHECKING abstractmethod""".split()


def files():
    return sorted(PACKAGE.glob("*.py"))


def trees():
    return [(path.name, ast.parse(path.read_text())) for path in files()]


def nodes(*kinds):
    return [(name, node) for name, tree in trees() for node in ast.walk(tree) if isinstance(node, kinds)]


WALKED = ("range", "zip", "enumerate", "reversed")
WALKERS = ("list", "tuple", "dict", "sorted", "sum", "any", "all", "enumerate", "zip", "min", "max")


def called(node, names):
    return isinstance(node, ast.Call) and isinstance(node.func, ast.Name) and node.func.id in names


class LanguageTest(unittest.TestCase):
    def test_files(self):
        for path in PACKAGE.rglob("*"):
            if "__pycache__" not in path.parts:
                self.assertRegex(path.name, r"^(__init__|[a-z][a-z0-9_]*)\.py$")
        self.assertIn(PACKAGE / "__init__.py", files())

    def test_size_and_signs(self):
        for path in files():
            text = path.read_bytes().decode("ascii")
            self.assertRegex(text, r"\A[ -~\n]*\Z", path.name)
            lines = text.split("\n")
            self.assertLessEqual(len(lines), 400, path.name)
            self.assertLessEqual(max(len(line) for line in lines), 120, path.name)
        for name, node in nodes(ast.FunctionDef):
            self.assertLessEqual(node.end_lineno - node.lineno + 1, 40, (name, node.name))

    def test_words(self):
        for path in files():
            found = set(re.findall(r"\w+", path.read_text()))
            self.assertEqual(set(), found & set(WORDS), path.name)

    def test_statements_and_expressions(self):
        for name, node in nodes(ast.AST):
            self.assertIsInstance(node, NODES, (name, getattr(node, "lineno", 0)))
        for name, node in nodes(ast.FunctionDef, ast.ClassDef):
            self.assertEqual([], node.decorator_list, (name, node.name))
        for name, node in nodes(ast.For, ast.While):
            self.assertEqual([], node.orelse, (name, node.lineno))
        for name, node in nodes(ast.Constant):
            self.assertIn(type(node.value), (int, str, bool, type(None)), (name, node.lineno))
        for name, node in nodes(ast.BinOp):
            self.assertNotIsInstance(node.op, (ast.Div, ast.Pow), (name, node.lineno))

    def test_imports(self):
        modules = {path.stem for path in files()}
        for name, node in nodes(ast.ImportFrom):
            self.assertEqual(0, node.level, name)
            package, dot, module = node.module.partition(".")
            self.assertEqual("matchkeeper", package, name)
            self.assertIn(module, modules, name)
            self.assertNotIn("*", [given.name for given in node.names], name)

    def test_names(self):
        for name, node in nodes(ast.Name):
            self.assertRegex(node.id, r"^[A-Za-z]\w*$", (name, node.lineno))
            if isinstance(node.ctx, ast.Store) or node.id not in OWN_NAMES:
                self.assertNotIn(node.id, dir(builtins), (name, node.lineno))
        for name, node in nodes(ast.arg):
            self.assertRegex(node.arg, r"^[A-Za-z]\w*$", (name, node.lineno))
            self.assertNotIn(node.arg, dir(builtins), (name, node.lineno))

    def test_methods_and_values(self):
        methods = {child.name for name, node in nodes(ast.ClassDef) for child in node.body
                   if isinstance(child, ast.FunctionDef)}
        stored = {node.attr for name, node in nodes(ast.Attribute) if isinstance(node.ctx, ast.Store)}
        self.assertEqual(set(), methods & stored)
        for name, node in nodes(ast.Call):
            if isinstance(node.func, ast.Attribute):
                self.assertIn(node.func.attr, methods | set(OWN_METHODS), (name, node.lineno))

    def test_walked_at_once(self):
        at_once = [node.iter for name, node in nodes(ast.For, ast.comprehension)]
        at_once += [node.args[0] for name, node in nodes(ast.Call) if called(node, WALKERS)]
        at_once_lines = {ast.dump(node, include_attributes=True) for node in at_once}
        for name, node in nodes(ast.Call):
            if called(node, WALKED):
                self.assertIn(ast.dump(node, include_attributes=True), at_once_lines, (name, node.lineno))

    def test_names_drawn_in(self):
        for name, tree in trees():
            drawn = {given.name for node in tree.body if isinstance(node, ast.ImportFrom) for given in node.names}
            read = {node.id for node in ast.walk(tree) if isinstance(node, ast.Name) and isinstance(node.ctx, ast.Load)}
            bound = {node.id for node in ast.walk(tree) if isinstance(node, ast.Name)
                     and isinstance(node.ctx, ast.Store)}
            bound |= {node.arg for node in ast.walk(tree) if isinstance(node, ast.arg)}
            self.assertEqual((set(), set()), (drawn - read, drawn & bound), name)
