"""The package keeps to shared/LANGUAGE.md, as far as a walk over its files can see it."""

import ast
import builtins
import pathlib
import re
import unittest

PACKAGE = pathlib.Path(__file__).resolve().parent.parent / "toldonce"
FILES = sorted(path for path in PACKAGE.rglob("*") if path.is_file() and "__pycache__" not in path.parts)

NODES = (
    ast.Module, ast.FunctionDef, ast.arguments, ast.arg, ast.ClassDef, ast.ImportFrom, ast.alias,
    ast.Assign, ast.AugAssign, ast.If, ast.While, ast.For, ast.Return, ast.Break, ast.Continue, ast.Pass,
    ast.Raise, ast.Try, ast.ExceptHandler, ast.Expr, ast.Name, ast.Attribute, ast.Subscript, ast.Slice,
    ast.Constant, ast.List, ast.Tuple, ast.Dict, ast.Set, ast.BinOp, ast.UnaryOp, ast.BoolOp, ast.Compare,
    ast.IfExp, ast.Call, ast.keyword, ast.ListComp, ast.comprehension, ast.Lambda, ast.JoinedStr,
    ast.FormattedValue, ast.expr_context, ast.operator, ast.unaryop, ast.boolop, ast.cmpop,
)
OUT = (ast.Div, ast.MatMult)

OWN = """
len range enumerate zip min max sum abs sorted reversed int str bool list tuple dict set frozenset isinstance
ord repr any all divmod Exception ValueError TypeError KeyError IndexError LookupError ZeroDivisionError
ArithmeticError OverflowError RuntimeError NotImplementedError StopIteration
""".split()

METHODS = """
append clear copy count endswith extend find get index insert isalnum isalpha isdigit islower isspace isupper
items join keys ljust lower lstrip partition pop remove replace reverse rfind rjust rpartition rsplit rstrip
setdefault split splitlines startswith strip update upper values zfill bit_length
""".split()

WORDS = """
type typing typing_extensions enum Enum IntEnum StrEnum Flag IntFlag Generic Protocol ABC ABCMeta namedtuple
NamedTuple TypedDict TYPE_CHECKING abstractmethod
""".split()
PARTS = ("dataclass", "overload", "contextmanager")

NOWHERE = "register mro elements open input version_info with_traceback add_note format format_map".split()
NOT_AS_NAMES = """
attrgetter breakpoint builtins compile copyright credits delattr dir eval exec exit gc getattr globals hasattr help id
importlib license locals methodcaller os quit setattr super sys type vars
""".split()
NOT_AS_VALUES = """
items keys values pop update append clear extend insert remove reverse setdefault sort args encode
""".split()
ALSO_AS_VALUES = "count index title find get join lower upper split strip copy add".split()

KEYWORDS = {"sorted": ("key", "reverse"), "min": ("key", "default"), "max": ("key", "default"), "sum": ("start",),
            "enumerate": ("start",), "zip": ("strict",)}
AS_KEYS = "len int str abs sum min max tuple".split()
WALKS = ("zip", "enumerate", "reversed", "range")
WALKERS = "list tuple dict sorted sum any all enumerate zip min max".split()
CHANGES = "append clear extend insert pop remove reverse setdefault update".split()


def trees():
    return [(path.name, ast.parse(path.read_text())) for path in FILES]


def nodes(*kinds):
    return [(name, node) for name, tree in trees() for node in ast.walk(tree) if isinstance(node, kinds)]


def bound_names():
    names = [(file, node.id) for file, node in nodes(ast.Name) if isinstance(node.ctx, ast.Store)]
    names += [(file, node.arg) for file, node in nodes(ast.arg)]
    return names


def with_parents():
    """Every node of the package, with its file's name and the nodes around it, the innermost first."""
    found = []
    for name, tree in trees():
        left = [(tree, [])]
        while left:
            node, around = left.pop()
            found.append((name, node, around))
            left.extend((part, [node] + around) for part in ast.iter_child_nodes(node))
    return found


def is_walk(node):
    if not isinstance(node, ast.Call):
        return False
    if isinstance(node.func, ast.Name):
        return node.func.id in WALKS
    return isinstance(node.func, ast.Attribute) and node.func.attr in ("items", "keys", "values")


def walked_names(node):
    """What a loop walks, written out, itself or through enumerate and its like."""
    if is_walk(node):
        inner = node.args if isinstance(node.func, ast.Name) else [node.func.value]
        return [name for part in inner if not is_range(node) for name in walked_names(part)]
    return [ast.unparse(node)] if isinstance(node, (ast.Name, ast.Attribute, ast.Subscript)) else []


def is_range(node):
    return isinstance(node.func, ast.Name) and node.func.id == "range"


def changed_names(loop):
    changed = []
    for node in ast.walk(loop):
        if isinstance(node, ast.Call) and isinstance(node.func, ast.Attribute) and node.func.attr in CHANGES:
            changed.append(ast.unparse(node.func.value))
        if isinstance(node, ast.Subscript) and isinstance(node.ctx, ast.Store):
            changed.append(ast.unparse(node.value))
        if isinstance(node, ast.AugAssign):
            changed.append(ast.unparse(node.target))
    return changed


def is_plain(node, functions):
    if isinstance(node, (ast.List, ast.Tuple)):
        return all(is_plain(part, functions) for part in node.elts)
    if isinstance(node, ast.Dict):
        return all(is_plain(part, functions) for part in node.keys + node.values)
    if isinstance(node, ast.UnaryOp):
        return isinstance(node.op, ast.USub) and isinstance(node.operand, ast.Constant)
    if isinstance(node, ast.Name):
        return node.id in functions
    return isinstance(node, ast.Constant)


class Files(unittest.TestCase):
    def test_names(self):
        self.assertIn("__init__.py", [path.name for path in FILES])
        for path in FILES:
            self.assertRegex(path.name, r"^(__init__|__main__|[a-z][a-z0-9_]*)\.py$")
            self.assertNotIn(path.stem, dir(builtins) + WORDS)
            self.assertNotRegex(path.stem, r"^(test.*|site|conftest|sitecustomize|usercustomize)$")

    def test_sizes_and_signs(self):
        for path in FILES:
            text = path.read_bytes().decode("ascii")
            rows = text.split("\n")
            self.assertLessEqual(len(rows), 400, path.name)
            self.assertLessEqual(max(len(row) for row in rows), 120, path.name)
            self.assertRegex(text, r"\A[ -~\n]*\Z", path.name)
        for name, node in nodes(ast.FunctionDef):
            self.assertLessEqual(node.end_lineno - node.lineno + 1, 40, f"{name} {node.name}")

    def test_words(self):
        for path in FILES:
            text = path.read_text()
            self.assertEqual(set(re.findall(r"\w+", text)) & set(WORDS), set(), path.name)
            for part in PARTS:
                self.assertNotIn(part, text, path.name)


class Form(unittest.TestCase):
    def test_statements_and_expressions(self):
        for name, node in nodes(ast.AST):
            where = f"{name} {getattr(node, 'lineno', '')} {ast.dump(node)[:60]}"
            self.assertIsInstance(node, NODES, where)
            self.assertNotIsInstance(node, OUT, where)
            self.assertFalse(getattr(node, "decorator_list", None), where)
            if isinstance(node, ast.Constant):
                self.assertNotIsInstance(node.value, (float, bytes, complex), where)
            if isinstance(node, ast.Assign):
                self.assertEqual(len(node.targets), 1, where)
                self.assertNotIsInstance(node.targets[0], (ast.Tuple, ast.List), where)
            if isinstance(node, (ast.For, ast.While)):
                self.assertFalse(node.orelse, where)
            if isinstance(node, ast.Try):
                self.assertFalse(node.finalbody, where)

    def test_imports(self):
        for name, node in nodes(ast.ImportFrom):
            self.assertEqual(node.level, 0, name)
            self.assertTrue(node.module.startswith("toldonce."), name)
            self.assertTrue((PACKAGE / (node.module.split(".", 1)[1] + ".py")).is_file(), node.module)
            for part in node.names:
                self.assertIsNone(part.asname, name)
                self.assertNotEqual(part.name, "*", name)

    def test_tops(self):
        for name, tree in trees():
            functions = [node.name for node in tree.body if isinstance(node, ast.FunctionDef)]
            for node in tree.body[1:]:
                self.assertIsInstance(node, (ast.ImportFrom, ast.FunctionDef, ast.ClassDef, ast.Assign), name)
                if isinstance(node, ast.Assign):
                    self.assertTrue(is_plain(node.value, functions), f"{name} {node.lineno}")

    def test_classes_hold_methods_alone(self):
        for name, node in nodes(ast.ClassDef):
            self.assertLessEqual(len(node.bases), 1, name)
            for part in node.body:
                self.assertIsInstance(part, ast.FunctionDef, f"{name} {node.name}")

    def test_parameters(self):
        for name, node in nodes(ast.arguments):
            self.assertFalse(node.vararg or node.kwarg or node.kwonlyargs or node.posonlyargs, name)
            for default in node.defaults:
                self.assertTrue(is_plain(default, []), name)

    def test_no_annotations(self):
        for name, node in nodes(ast.arg, ast.FunctionDef):
            self.assertIsNone(getattr(node, "annotation", None) or getattr(node, "returns", None), name)

    def test_comprehensions(self):
        for name, node in nodes(ast.ListComp):
            self.assertEqual(len(node.generators), 1, name)
            self.assertLessEqual(len(node.generators[0].ifs), 1, name)

    def test_no_sets(self):
        for name, node in nodes(ast.Set, ast.Name):
            self.assertNotIsInstance(node, ast.Set, name)
            self.assertNotIn(node.id, ("set", "frozenset", "chr"), name)

    def test_is_beside_none_true_and_false_alone(self):
        for name, node in nodes(ast.Compare):
            for sign, right in zip(node.ops, node.comparators):
                if isinstance(sign, (ast.Is, ast.IsNot)):
                    self.assertIsInstance(right, ast.Constant, f"{name} {node.lineno}")
                    self.assertIn(right.value, (None, True, False), f"{name} {node.lineno}")

    def test_powers_and_texts(self):
        for name, node in nodes(ast.BinOp):
            if isinstance(node.op, ast.Pow):
                self.assertIsInstance(node.right, ast.Constant, f"{name} {node.lineno}")
                self.assertIn(node.right.value, range(65), f"{name} {node.lineno}")
        for name, node in nodes(ast.Constant):
            if isinstance(node.value, str):
                self.assertNotIn("%", node.value, f"{name} {node.lineno}")

    def test_errors(self):
        for name, node in nodes(ast.ExceptHandler):
            self.assertIsNotNone(node.type, f"{name} {node.lineno}")
            self.assertNotIn(ast.unparse(node.type), ("Exception", "TypeError"), f"{name} {node.lineno}")

    def test_first_methods_give_back_nothing(self):
        for name, node in nodes(ast.FunctionDef):
            if node.name == "__init__":
                given = [part for part in ast.walk(node) if isinstance(part, ast.Return)]
                self.assertEqual(given, [], f"{name} {node.lineno}")


class Tops(unittest.TestCase):
    def test_names_are_bound_once(self):
        for name, tree in trees():
            bound = [part.name for node in tree.body if isinstance(node, ast.ImportFrom) for part in node.names]
            bound += [node.name for node in tree.body if isinstance(node, (ast.FunctionDef, ast.ClassDef))]
            bound += [node.targets[0].id for node in tree.body if isinstance(node, ast.Assign)]
            self.assertEqual(len(bound), len(set(bound)), name)

    def test_classes_stand_there(self):
        for name, node, around in with_parents():
            if isinstance(node, ast.ClassDef):
                self.assertIsInstance(around[0], ast.Module, name)

    def test_lists_and_dicts_hold_none_themselves(self):
        for name, tree in trees():
            for node in tree.body:
                if isinstance(node, ast.Assign):
                    inner = [part for part in ast.walk(node.value) if part is not node.value]
                    self.assertFalse([part for part in inner if isinstance(part, (ast.List, ast.Dict))], name)

    def test_names_are_drawn_from_where_they_are_defined(self):
        defined = {}
        for name, tree in trees():
            here = [node.name for node in tree.body if isinstance(node, (ast.FunctionDef, ast.ClassDef))]
            here += [node.targets[0].id for node in tree.body if isinstance(node, ast.Assign)]
            defined["toldonce." + name[:-3]] = here
        for name, node in nodes(ast.ImportFrom):
            for part in node.names:
                self.assertIn(part.name, defined[node.module], name)

    def test_what_is_drawn_is_used(self):
        for name, tree in trees():
            used = {node.id for node in ast.walk(tree) if isinstance(node, ast.Name)}
            drawn = {part.name for node in tree.body if isinstance(node, ast.ImportFrom) for part in node.names}
            self.assertEqual(drawn - used, set(), name)

    def test_no_two_files_draw_from_one_another(self):
        drawn = {name: set() for name, tree in trees()}
        for name, node in nodes(ast.ImportFrom):
            drawn[name].add(node.module.split(".", 1)[1] + ".py")
        while drawn:
            free = [name for name in drawn if not drawn[name] & set(drawn)]
            self.assertTrue(free, f"these draw from one another: {sorted(drawn)}")
            for name in free:
                drawn.pop(name)


class Use(unittest.TestCase):
    def test_pythons_own_are_called(self):
        for name, node, around in with_parents():
            if isinstance(node, ast.Name) and node.id in OWN and node.id[0].islower():
                called = isinstance(around[0], ast.Call) and around[0].func is node
                as_key = isinstance(around[0], ast.keyword) and around[0].arg == "key" and node.id in AS_KEYS
                calls = [ast.unparse(part.func) for part in around[:2] if isinstance(part, ast.Call)]
                beside = "isinstance" in calls
                self.assertTrue(called or as_key or beside, f"{name} {node.lineno} {node.id}")

    def test_keywords(self):
        own = [node.name for name, node in nodes(ast.FunctionDef, ast.ClassDef)]
        for name, node in nodes(ast.Call):
            called = node.func.id if isinstance(node.func, ast.Name) else node.func.attr
            for part in node.keywords:
                if called not in own:
                    self.assertIn(part.arg, KEYWORDS.get(called, ()), f"{name} {node.lineno}")

    def test_walked_on_the_spot(self):
        for name, node, around in with_parents():
            if is_walk(node):
                outer = around[0]
                walked = isinstance(outer, (ast.For, ast.comprehension)) and outer.iter is node
                handed = isinstance(outer, ast.Call) and ast.unparse(outer.func) in WALKERS and node in outer.args
                self.assertTrue(walked or handed, f"{name} {node.lineno}")

    def test_what_a_loop_walks_is_not_changed_in_it(self):
        for name, node in nodes(ast.For):
            self.assertEqual(set(walked_names(node.iter)) & set(changed_names(node)), set(), f"{name} {node.lineno}")

    def test_methods_are_called_where_they_stand(self):
        for name, node, around in with_parents():
            if isinstance(node, ast.Attribute) and node.attr in METHODS:
                called = isinstance(around[0], ast.Call) and around[0].func is node
                self.assertTrue(called or node.attr in ALSO_AS_VALUES, f"{name} {node.lineno} {node.attr}")

    def test_classes_are_called_or_stand_in_their_places(self):
        classes = [node.name for name, node in nodes(ast.ClassDef)]
        for name, node, around in with_parents():
            if isinstance(node, ast.Name) and node.id in classes:
                placed = isinstance(around[0], (ast.ClassDef, ast.ExceptHandler, ast.Raise))
                called = isinstance(around[0], ast.Call) and (
                    around[0].func is node or ast.unparse(around[0].func) == "isinstance")
                self.assertTrue(placed or called, f"{name} {node.lineno} {node.id}")

    def test_tops_are_only_read(self):
        for name, tree in trees():
            tops = [node.targets[0].id for node in tree.body if isinstance(node, ast.Assign)]
            for node in ast.walk(tree):
                if isinstance(node, ast.FunctionDef):
                    self.assertEqual(set(tops) & set(changed_names(node)), set(), f"{name} {node.lineno}")


class Names(unittest.TestCase):
    def test_bound_names_are_plain_and_not_pythons_own(self):
        defined = [(file, node.name) for file, node in nodes(ast.FunctionDef, ast.ClassDef)]
        for file, name in bound_names() + [pair for pair in defined if pair[1] != "__init__"]:
            self.assertRegex(name, r"^[A-Za-z][A-Za-z0-9_]*$", file)
            self.assertNotIn(name, dir(builtins), file)

    def test_read_names_of_pythons_own(self):
        for file, node in nodes(ast.Name):
            if node.id in dir(builtins):
                self.assertIn(node.id, OWN, file)

    def test_no_local_is_called_like_a_class_or_an_import(self):
        taken = [(file, node.name) for file, node in nodes(ast.ClassDef)]
        taken += [(file, part.name) for file, node in nodes(ast.ImportFrom) for part in node.names]
        self.assertEqual(set(taken) & set(bound_names()), set())

    def test_names_that_are_not_used(self):
        for file, node in nodes(ast.Name, ast.arg, ast.Attribute):
            name = node.attr if isinstance(node, ast.Attribute) else node.arg if isinstance(node, ast.arg) else node.id
            self.assertNotIn(name, NOWHERE, f"{file} {node.lineno}")
            self.assertNotRegex(name, r"^(f|tb|co|cr|gi|ag)_", f"{file} {node.lineno}")
            if not isinstance(node, ast.Attribute):
                self.assertNotIn(name, NOT_AS_NAMES, f"{file} {node.lineno}")

    def test_values_of_objects(self):
        pythons = {name for kind in (str, int, list, dict, set, bytes) for name in dir(kind)}
        given = {node.attr for file, node in nodes(ast.Attribute) if isinstance(node.ctx, ast.Store)}
        self.assertEqual(given & set(NOT_AS_VALUES), set())
        self.assertEqual((given & pythons) - set(ALSO_AS_VALUES), set())

    def test_no_name_is_a_method_and_a_value(self):
        given = {node.attr for file, node in nodes(ast.Attribute) if isinstance(node.ctx, ast.Store)}
        methods = [part.name for file, node in nodes(ast.ClassDef) for part in node.body]
        self.assertEqual(given & set(methods), set())
        for file, node in nodes(ast.ClassDef):
            names = [part.name for part in node.body]
            self.assertEqual(len(names), len(set(names)), f"{file} {node.name}")
            for name in names:
                self.assertTrue(name == "__init__" or not name.startswith("_"), f"{file} {node.name} {name}")

    def test_methods_of_pythons_own_values(self):
        pythons = {name for kind in (str, int, list, dict, set, bytes) for name in dir(kind)}
        for file, node in nodes(ast.Attribute):
            if node.attr in pythons:
                self.assertIn(node.attr, METHODS + ["__init__"], file)


if __name__ == "__main__":
    unittest.main()
