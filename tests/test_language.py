"""The package keeps to its small part of Python, as far as a walk through its files can see."""

import ast
import builtins
import pathlib
import re
import unittest

PACKAGE = pathlib.Path(__file__).resolve().parent.parent / "plainsettings"
FILES = sorted(path for path in PACKAGE.rglob("*") if "__pycache__" not in path.parts)

OWN_NAMES = set(
    "len range enumerate zip min max sum abs sorted reversed int str bool list tuple dict set frozenset isinstance ord repr "
    "any all divmod Exception ValueError TypeError KeyError IndexError LookupError ZeroDivisionError ArithmeticError "
    "OverflowError RuntimeError NotImplementedError AttributeError StopIteration".split())
OWN_METHODS = set(
    "append clear copy count endswith extend find get index insert isalnum isalpha isdigit islower isspace isupper items "
    "join keys ljust lower lstrip partition pop remove replace reverse rfind rjust rpartition rsplit rstrip setdefault "
    "split splitlines startswith strip update upper values zfill bit_length".split())
WALKED = {"range", "enumerate", "zip", "reversed"}
WALKERS = {"list", "tuple", "dict", "sorted", "sum", "any", "all", "enumerate", "zip", "min", "max"}
BANNED_NAMES = set(
    "register mro elements open input version_info with_traceback add_note attrgetter breakpoint builtins compile copyright "
    "credits delattr dir eval exec exit gc getattr globals hasattr help id importlib license locals methodcaller os quit "
    "setattr super type vars sys chr format format_map".split())
BANNED_WORDS = re.compile(
    r"\b(type|typing|typing_extensions|enum|Enum|IntEnum|StrEnum|Flag|IntFlag|Generic|Protocol|ABC|ABCMeta|namedtuple|"
    r"NamedTuple|TypedDict|TYPE_CHECKING|abstractmethod)\b|dataclass|overload|contextmanager")
NODES = (
    ast.Module, ast.ImportFrom, ast.alias, ast.FunctionDef, ast.ClassDef, ast.arguments, ast.arg, ast.Assign, ast.AugAssign,
    ast.If, ast.While, ast.For, ast.Return, ast.Break, ast.Continue, ast.Pass, ast.Raise, ast.Try, ast.ExceptHandler, ast.Expr,
    ast.Constant, ast.List, ast.Tuple, ast.Dict, ast.BinOp, ast.UnaryOp, ast.BoolOp, ast.Compare, ast.IfExp, ast.Call,
    ast.Attribute, ast.Subscript, ast.Slice, ast.ListComp, ast.comprehension, ast.Name, ast.keyword, ast.Lambda,
    ast.JoinedStr, ast.FormattedValue, ast.expr_context, ast.operator, ast.unaryop, ast.boolop, ast.cmpop)
PYTHONS_OWN = (str, int, list, dict, set, bytes, tuple)


def trees():
    return [(path, ast.parse(path.read_text())) for path in FILES]


def nodes_of(sort):
    return [(path, node) for path, tree in trees() for node in ast.walk(tree) if isinstance(node, sort)]


def bound_names(tree):
    """Parameters and what is assigned anywhere within the defs."""
    names = [node.arg for node in ast.walk(tree) if isinstance(node, ast.arg)]
    for node in ast.walk(tree):
        if isinstance(node, ast.Name) and isinstance(node.ctx, ast.Store):
            names.append(node.id)
    return names


def is_plain(node):
    if isinstance(node, (ast.List, ast.Tuple)):
        return all(is_plain(part) for part in node.elts)
    if isinstance(node, ast.Dict):
        return all(is_plain(part) for part in node.keys + node.values)
    return isinstance(node, ast.Constant) and not isinstance(node.value, (float, bytes))


class Files(unittest.TestCase):
    def test_names(self):
        self.assertIn(PACKAGE / "__init__.py", FILES)
        for path in FILES:
            self.assertRegex(path.name, r"^(__init__|[a-z][a-z0-9_]*)\.py$")
            self.assertNotIn(path.stem, dir(builtins))
            self.assertNotRegex(path.stem, r"^(test.*|site|conftest|sitecustomize|usercustomize)$")

    def test_signs_and_sizes(self):
        for path in FILES:
            text = path.read_bytes()
            self.assertIsNone(re.search(rb"[^ -~\n]", text), path)
            self.assertLessEqual(text.count(b"\n"), 400, path)
            for number, line in enumerate(text.split(b"\n"), 1):
                self.assertLessEqual(len(line), 120, (path, number))
            self.assertIsNone(BANNED_WORDS.search(text.decode()), path)

    def test_functions_are_small(self):
        for path, node in nodes_of(ast.FunctionDef):
            self.assertLessEqual(node.end_lineno - node.lineno + 1, 40, (path, node.name))
            self.assertEqual(node.decorator_list, [])
            given = node.args
            self.assertFalse(given.vararg or given.kwarg or given.kwonlyargs or given.posonlyargs, (path, node.name))


class Tops(unittest.TestCase):
    def test_what_stands_at_the_top(self):
        for path, tree in trees():
            self.assertIsNotNone(ast.get_docstring(tree), path)
            names = []
            for node in tree.body[1:]:
                self.assertIsInstance(node, (ast.ImportFrom, ast.FunctionDef, ast.ClassDef, ast.Assign), (path, node.lineno))
                if isinstance(node, ast.Assign):
                    self.assertTrue(is_plain(node.value), (path, node.lineno))
                    names.append(node.targets[0].id)
                elif isinstance(node, ast.ImportFrom):
                    names.extend(alias.name for alias in node.names)
                else:
                    names.append(node.name)
            self.assertEqual(len(names), len(set(names)), path)

    def test_imports(self):
        drawn = {}
        defined = {}
        for path, tree in trees():
            defined[path.stem] = [node.name if hasattr(node, "name") else node.targets[0].id for node in tree.body
                                  if isinstance(node, (ast.FunctionDef, ast.ClassDef, ast.Assign))]
        for path, node in nodes_of(ast.ImportFrom):
            self.assertEqual(node.level, 0)
            self.assertRegex(node.module, r"^plainsettings\.[a-z0-9_]+$", path)
            source = node.module.partition(".")[2]
            drawn.setdefault(path.stem, []).append(source)
            for alias in node.names:
                self.assertIsNone(alias.asname)
                self.assertIn(alias.name, defined[source], path)
        done = []
        while len(done) < len(defined):
            ready = [name for name in defined if name not in done and set(drawn.get(name, [])) <= set(done)]
            self.assertTrue(ready, "files draw from one another")
            done.extend(ready)

    def test_imports_are_used(self):
        for path, tree in trees():
            used = {node.id for node in ast.walk(tree) if isinstance(node, ast.Name)}
            for node in tree.body:
                if isinstance(node, ast.ImportFrom):
                    for alias in node.names:
                        self.assertIn(alias.name, used, path)


class Names(unittest.TestCase):
    def test_bound_names(self):
        for path, tree in trees():
            taken = {alias.name for node in tree.body if isinstance(node, ast.ImportFrom) for alias in node.names}
            taken |= {node.name for node in tree.body if isinstance(node, ast.ClassDef)}
            for name in bound_names(tree):
                self.assertRegex(name, r"^[A-Za-z][A-Za-z0-9_]*$", path)
                self.assertNotIn(name, taken, path)
                self.assertNotIn(name, dir(builtins), path)

    def test_names_of_pythons_own(self):
        for path, node in nodes_of(ast.Name):
            self.assertNotIn(node.id, BANNED_NAMES, (path, node.lineno))
            if node.id in dir(builtins):
                self.assertIn(node.id, OWN_NAMES, (path, node.lineno))

    def test_attributes(self):
        methods = {node.name for path, top in nodes_of(ast.ClassDef) for node in top.body if isinstance(node, ast.FunctionDef)}
        values = {node.attr for path, node in nodes_of(ast.Attribute) if isinstance(node.ctx, ast.Store)}
        self.assertEqual(methods & values, set())
        for name in (methods - {"__init__"}) | values:
            self.assertFalse(any(hasattr(sort, name) for sort in PYTHONS_OWN), name)
            self.assertNotIn(name, BANNED_NAMES)
        for path, tree in trees():
            called = [node.func for node in ast.walk(tree) if isinstance(node, ast.Call)]
            for node in ast.walk(tree):
                if isinstance(node, ast.Attribute) and node.attr not in values:
                    self.assertIn(node.attr, methods | OWN_METHODS, (path, node.lineno))
                    self.assertTrue(any(node is other for other in called), (path, node.lineno))

    def test_classes(self):
        for path, node in nodes_of(ast.ClassDef):
            self.assertEqual([base.id for base in node.bases], ["Exception"] if len(node.body) == 1 else [], node.name)
            for part in node.body:
                self.assertTrue(isinstance(part, ast.FunctionDef) or isinstance(part.value, ast.Constant), node.name)


class Forms(unittest.TestCase):
    def test_statements_and_expressions(self):
        for path, node in nodes_of(ast.AST):
            where = (path, getattr(node, "lineno", 0), node)
            self.assertIsInstance(node, NODES, where)
            self.assertNotIsInstance(node, (ast.Div, ast.MatMult), where)
            if isinstance(node, ast.Constant):
                self.assertNotIsInstance(node.value, (float, bytes, complex), where)
                if isinstance(node.value, str):
                    self.assertNotIn("%", node.value, where)
            if isinstance(node, (ast.For, ast.While, ast.Try)):
                self.assertFalse(isinstance(node, (ast.For, ast.While)) and node.orelse, where)
                self.assertFalse(getattr(node, "finalbody", []), where)
            if isinstance(node, ast.Assign):
                self.assertEqual(len(node.targets), 1, where)
                self.assertNotIsInstance(node.targets[0], (ast.Tuple, ast.List), where)
            if isinstance(node, ast.comprehension):
                self.assertLessEqual(len(node.ifs), 1, where)
            if isinstance(node, ast.ListComp):
                self.assertEqual(len(node.generators), 1, where)
            if isinstance(node, ast.Expr):
                self.assertTrue(isinstance(node.value, ast.Call) or isinstance(node.value.value, str), where)

    def test_powers(self):
        for path, node in nodes_of(ast.BinOp):
            if isinstance(node.op, ast.Pow):
                self.assertIn(node.right.value, range(65), (path, node.lineno))

    def test_is(self):
        for path, node in nodes_of(ast.Compare):
            for operator, right in zip(node.ops, node.comparators):
                if isinstance(operator, (ast.Is, ast.IsNot)):
                    self.assertIn(right.value, (None, True, False), (path, node.lineno))

    def test_errors(self):
        own = {node.name for path, node in nodes_of(ast.ClassDef) if node.bases}
        for path, node in nodes_of(ast.ExceptHandler):
            self.assertIn(node.type.id, own, (path, node.lineno))
        for path, node in nodes_of(ast.Raise):
            self.assertIn(node.exc.func.id, own | {"NotImplementedError"}, (path, node.lineno))
            self.assertTrue(node.cause is None or node.cause.value is None, (path, node.lineno))

    def test_what_is_walked_at_once(self):
        for path, tree in trees():
            fine = []
            for node in ast.walk(tree):
                if isinstance(node, (ast.For, ast.comprehension)):
                    fine.append(node.iter)
                elif isinstance(node, ast.Call) and isinstance(node.func, ast.Name) and node.func.id in WALKERS:
                    fine.extend(node.args[:1])
            for node in ast.walk(tree):
                if isinstance(node, ast.Call):
                    name = node.func.id if isinstance(node.func, ast.Name) else node.func.attr
                    if name in WALKED or name in ("items", "keys", "values"):
                        self.assertTrue(any(node is other for other in fine), (path, node.lineno))

    def test_keywords(self):
        for path, node in nodes_of(ast.Call):
            for keyword in node.keywords:
                self.assertIn((node.func.id, keyword.arg), {("enumerate", "start")}, (path, node.lineno))


if __name__ == "__main__":
    unittest.main()
