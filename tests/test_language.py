"""The package keeps to shared/LANGUAGE.md, as far as a walk over its files can see it."""

import ast
import builtins
import pathlib
import re
import unittest

PACKAGE = pathlib.Path(__file__).resolve().parent.parent / "toldonce"
FILES = sorted(path for path in PACKAGE.rglob("*") if path.is_file() and "__pycache__" not in path.parts)

NODES = (
    ast.Module, ast.FunctionDef, ast.arguments, ast.arg, ast.ClassDef, ast.ImportFrom, ast.alias,
    ast.Assign, ast.AugAssign, ast.If, ast.While, ast.For, ast.Return, ast.Break, ast.Continue, ast.Pass,
    ast.Raise, ast.Try, ast.ExceptHandler, ast.Expr, ast.Name, ast.Attribute, ast.Subscript, ast.Slice,
    ast.Constant, ast.List, ast.Tuple, ast.Dict, ast.Set, ast.BinOp, ast.UnaryOp, ast.BoolOp, ast.Compare,
    ast.IfExp, ast.Call, ast.keyword, ast.ListComp, ast.comprehension, ast.Lambda, ast.JoinedStr,
    ast.FormattedValue, ast.expr_context, ast.operator, ast.unaryop, ast.boolop, ast.cmpop,
)
OUT = (ast.Div, ast.MatMult)

OWN = """
len range enumerate zip min max sum abs sorted reversed int str bool list tuple dict set frozenset isinstance
ord repr any all divmod Exception ValueError TypeError KeyError IndexError LookupError ZeroDivisionError
ArithmeticError OverflowError RuntimeError NotImplementedError StopIteration
""".split()

METHODS = """
append clear copy count endswith extend find get index insert isalnum isalpha isdigit islower isspace isupper
items join keys ljust lower lstrip partition pop remove replace reverse rfind rjust rpartition rsplit rstrip
setdefault split splitlines startswith strip update upper values zfill bit_length
""".split()

WORDS = """
type typing typing_extensions enum Enum IntEnum StrEnum Flag IntFlag Generic Protocol ABC ABCMeta namedtuple
NamedTuple TypedDict TYPE_CHECKING abstractmethod
""".split()
PARTS = ("dataclass", "overload", "contextmanager")


def trees():
    return [(path.name, ast.parse(path.read_text())) for path in FILES]


def nodes(*kinds):
    return [(name, node) for name, tree in trees() for node in ast.walk(tree) if isinstance(node, kinds)]


def bound_names():
    names = [(file, node.id) for file, node in nodes(ast.Name) if isinstance(node.ctx, ast.Store)]
    names += [(file, node.arg) for file, node in nodes(ast.arg)]
    return names


def is_plain(node, functions):
    if isinstance(node, (ast.List, ast.Tuple)):
        return all(is_plain(part, functions) for part in node.elts)
    if isinstance(node, ast.Dict):
        return all(is_plain(part, functions) for part in node.keys + node.values)
    if isinstance(node, ast.UnaryOp):
        return isinstance(node.op, ast.USub) and isinstance(node.operand, ast.Constant)
    if isinstance(node, ast.Name):
        return node.id in functions
    return isinstance(node, ast.Constant)


class Files(unittest.TestCase):
    def test_names(self):
        self.assertIn("__init__.py", [path.name for path in FILES])
        for path in FILES:
            self.assertRegex(path.name, r"^(__init__|__main__|[a-z][a-z0-9_]*)\.py$")
            self.assertNotIn(path.stem, dir(builtins) + WORDS)
            self.assertNotRegex(path.stem, r"^(test.*|site|conftest|sitecustomize|usercustomize)$")

    def test_sizes_and_signs(self):
        for path in FILES:
            text = path.read_bytes().decode("ascii")
            rows = text.split("\n")
            self.assertLessEqual(len(rows), 400, path.name)
            self.assertLessEqual(max(len(row) for row in rows), 120, path.name)
            self.assertRegex(text, r"\A[ -~\n]*\Z", path.name)
        for name, node in nodes(ast.FunctionDef):
            self.assertLessEqual(node.end_lineno - node.lineno + 1, 40, f"{name} {node.name}")

    def test_words(self):
        for path in FILES:
            text = path.read_text()
            self.assertEqual(set(re.findall(r"\w+", text)) & set(WORDS), set(), path.name)
            for part in PARTS:
                self.assertNotIn(part, text, path.name)


class Form(unittest.TestCase):
    def test_statements_and_expressions(self):
        for name, node in nodes(ast.AST):
            where = f"{name} {getattr(node, 'lineno', '')} {ast.dump(node)[:60]}"
            self.assertIsInstance(node, NODES, where)
            self.assertNotIsInstance(node, OUT, where)
            self.assertFalse(getattr(node, "decorator_list", None), where)
            if isinstance(node, ast.Constant):
                self.assertNotIsInstance(node.value, (float, bytes, complex), where)
            if isinstance(node, ast.Assign):
                self.assertEqual(len(node.targets), 1, where)
                self.assertNotIsInstance(node.targets[0], (ast.Tuple, ast.List), where)
            if isinstance(node, (ast.For, ast.While)):
                self.assertFalse(node.orelse, where)
            if isinstance(node, ast.Try):
                self.assertFalse(node.finalbody, where)

    def test_imports(self):
        for name, node in nodes(ast.ImportFrom):
            self.assertEqual(node.level, 0, name)
            self.assertTrue(node.module.startswith("toldonce."), name)
            self.assertTrue((PACKAGE / (node.module.split(".", 1)[1] + ".py")).is_file(), node.module)
            for part in node.names:
                self.assertIsNone(part.asname, name)
                self.assertNotEqual(part.name, "*", name)

    def test_tops(self):
        for name, tree in trees():
            functions = [node.name for node in tree.body if isinstance(node, ast.FunctionDef)]
            for node in tree.body[1:]:
                self.assertIsInstance(node, (ast.ImportFrom, ast.FunctionDef, ast.ClassDef, ast.Assign), name)
                if isinstance(node, ast.Assign):
                    self.assertTrue(is_plain(node.value, functions), f"{name} {node.lineno}")

    def test_classes_hold_methods_alone(self):
        for name, node in nodes(ast.ClassDef):
            self.assertLessEqual(len(node.bases), 1, name)
            for part in node.body:
                self.assertIsInstance(part, ast.FunctionDef, f"{name} {node.name}")


class Names(unittest.TestCase):
    def test_bound_names_are_plain_and_not_pythons_own(self):
        defined = [(file, node.name) for file, node in nodes(ast.FunctionDef, ast.ClassDef)]
        for file, name in bound_names() + [pair for pair in defined if pair[1] != "__init__"]:
            self.assertRegex(name, r"^[A-Za-z][A-Za-z0-9_]*$", file)
            self.assertNotIn(name, dir(builtins), file)

    def test_read_names_of_pythons_own(self):
        for file, node in nodes(ast.Name):
            if node.id in dir(builtins):
                self.assertIn(node.id, OWN, file)

    def test_no_local_is_called_like_a_class_or_an_import(self):
        taken = [(file, node.name) for file, node in nodes(ast.ClassDef)]
        taken += [(file, part.name) for file, node in nodes(ast.ImportFrom) for part in node.names]
        self.assertEqual(set(taken) & set(bound_names()), set())

    def test_methods_of_pythons_own_values(self):
        pythons = {name for kind in (str, int, list, dict, set, bytes) for name in dir(kind)}
        for file, node in nodes(ast.Attribute):
            if node.attr in pythons:
                self.assertIn(node.attr, METHODS + ["__init__"], file)


if __name__ == "__main__":
    unittest.main()
