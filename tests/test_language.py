"""The package keeps to the small part of Python that it's written in, as far as a walk over its code can tell."""

import ast
import builtins
import pathlib
import re
import unittest

PACKAGE = pathlib.Path(__file__).resolve().parent.parent / "handhouse"
FILES = sorted(PACKAGE.glob("*.py"))

OWN_NAMES = set("""
    len range enumerate zip min max sum abs sorted reversed int str bool list tuple dict set frozenset isinstance ord
    repr any all divmod Exception ValueError TypeError KeyError IndexError LookupError ZeroDivisionError
    ArithmeticError OverflowError RuntimeError NotImplementedError AttributeError StopIteration
""".split())
OWN_METHODS = set("""
    append clear copy count endswith extend find get index insert isalnum isalpha isdigit islower isspace isupper items
    join keys ljust lower lstrip partition pop remove replace reverse rfind rjust rpartition rsplit rstrip setdefault
    split splitlines startswith strip update upper values zfill bit_length
""".split())
NEVER = {"register", "mro", "elements", "open", "input", "version_info", "with_traceback", "add_note"}
NEVER_WORDS = r"""\b(type|typing|typing_extensions|enum|Enum|IntEnum|StrEnum|Flag|IntFlag|Generic|Protocol|ABC|ABCMeta|
    namedtuple|NamedTuple|TypedDict|TYPE_CHECKING|abstractmethod)\b|dataclass|overload|contextmanager"""
STATEMENTS = (
    ast.Assign, ast.AugAssign, ast.If, ast.While, ast.For, ast.Return, ast.Break, ast.Continue, ast.Pass, ast.Raise,
    ast.Try, ast.Expr, ast.FunctionDef, ast.ClassDef, ast.ImportFrom,
)
EXPRESSIONS = (
    ast.Constant, ast.List, ast.Tuple, ast.Dict, ast.BinOp, ast.UnaryOp, ast.BoolOp, ast.Compare, ast.IfExp, ast.Call,
    ast.Attribute, ast.Subscript, ast.Slice, ast.ListComp, ast.JoinedStr, ast.FormattedValue, ast.Name, ast.Lambda,
)
BUILT_IN_VALUES = ("", 0, [], {}, set(), b"", ())


def trees():
    return [(path, ast.parse(path.read_text())) for path in FILES]


def nodes(kind):
    return [(path, node) for path, tree in trees() for node in ast.walk(tree) if isinstance(node, kind)]


def plain(node, functions):
    """Whether a value at a file's top is a plain one."""
    if isinstance(node, ast.Constant):
        return node.value is None or isinstance(node.value, (bool, int, str))
    if isinstance(node, (ast.List, ast.Tuple)):
        return all(plain(part, functions) for part in node.elts)
    if isinstance(node, ast.Dict):
        return all(plain(part, functions) and not isinstance(part, (ast.List, ast.Dict))
                   for part in node.keys + node.values)
    return isinstance(node, ast.Name) and node.id in functions


def own_methods_and_values():
    methods, values = set(), set()
    for path, node in nodes(ast.ClassDef):
        methods |= {part.name for part in node.body if isinstance(part, ast.FunctionDef)}
    for path, node in nodes(ast.Attribute):
        if isinstance(node.ctx, ast.Store):
            values.add(node.attr)
    return methods, values


class Files(unittest.TestCase):
    def test_nothing_else_lies_there(self):
        for path in PACKAGE.iterdir():
            if path.name != "__pycache__":
                self.assertTrue(path.is_file() and re.fullmatch(r"[a-z0-9_]+\.py", path.name), path)
                self.assertNotIn(path.stem, dir(builtins))
        self.assertIn(PACKAGE / "__init__.py", FILES)

    def test_signs_and_sizes(self):
        for path in FILES:
            text = path.read_bytes()
            self.assertTrue(all(sign == 10 or 32 <= sign <= 126 for sign in text), path)
            rows = text.decode().split("\n")
            self.assertLessEqual(len(rows), 400, path)
            self.assertLessEqual(max(map(len, rows)), 120, path)
            self.assertIsNone(re.search(NEVER_WORDS, text.decode(), re.VERBOSE), path)

    def test_functions_are_small(self):
        for path, node in nodes(ast.FunctionDef):
            self.assertLessEqual(node.end_lineno - node.lineno + 1, 40, (path, node.name))


class Tops(unittest.TestCase):
    def test_what_stands_there(self):
        for path, tree in trees():
            functions, bound = set(), []
            for node in tree.body:
                where = (path, node.lineno)
                self.assertIsInstance(node, (ast.Expr, ast.ImportFrom, ast.FunctionDef, ast.ClassDef, ast.Assign), where)
                if isinstance(node, ast.Expr):
                    self.assertIsInstance(node.value, ast.Constant, where)
                elif isinstance(node, ast.Assign):
                    self.assertTrue(plain(node.value, functions), where)
                    bound.append(node.targets[0].id)
                elif isinstance(node, ast.ImportFrom):
                    bound += [name.name for name in node.names]
                else:
                    bound.append(node.name)
                    functions.add(node.name)
            self.assertEqual(len(bound), len(set(bound)), path)

    def test_imports(self):
        defined = {f"handhouse.{path.stem}": {node.name for node in tree.body if hasattr(node, "name")}
                   | {node.targets[0].id for node in tree.body if isinstance(node, ast.Assign)}
                   for path, tree in trees()}
        draws = {name: set() for name in defined}
        for path, node in nodes(ast.ImportFrom):
            self.assertEqual(node.level, 0, path)
            for name in node.names:
                self.assertIn(name.name, defined[node.module], path)
                self.assertIsNone(name.asname, path)
            draws[f"handhouse.{path.stem}"].add(node.module)
        done = set()
        while len(done) < len(draws):
            free = {name for name in draws if name not in done and draws[name] <= done}
            self.assertTrue(free, "files that draw from one another")
            done |= free

    def test_all_imports_are_used(self):
        for path, tree in trees():
            used = {node.id for node in ast.walk(tree) if isinstance(node, ast.Name)}
            for node in tree.body:
                if isinstance(node, ast.ImportFrom):
                    self.assertIn(node.names[0].name, used, path)

    def test_tables_are_only_read(self):
        for path, tree in trees():
            tables = {node.targets[0].id for node in tree.body
                      if isinstance(node, ast.Assign) and isinstance(node.value, (ast.List, ast.Dict))}
            for node in ast.walk(tree):
                if isinstance(node, ast.Call) and isinstance(node.func, ast.Attribute):
                    if isinstance(node.func.value, ast.Name) and node.func.value.id in tables:
                        self.assertIn(node.func.attr, ("get", "items", "keys", "values"), (path, node.lineno))
                if isinstance(node, ast.Subscript) and isinstance(node.ctx, ast.Store):
                    self.assertFalse(isinstance(node.value, ast.Name) and node.value.id in tables, path)


class Code(unittest.TestCase):
    def test_statements_and_expressions(self):
        for path, node in nodes((ast.stmt, ast.expr)):
            where = (path, node.lineno)
            self.assertIsInstance(node, STATEMENTS if isinstance(node, ast.stmt) else EXPRESSIONS, where)
            if isinstance(node, ast.Assign):
                self.assertEqual(len(node.targets), 1, where)
                self.assertNotIsInstance(node.targets[0], ast.Tuple, where)
            if isinstance(node, (ast.For, ast.While)):
                self.assertEqual(node.orelse, [], where)
            if isinstance(node, ast.Try):
                self.assertEqual(node.finalbody, [], where)
            if isinstance(node, ast.Constant):
                self.assertNotIsInstance(node.value, (float, bytes, complex), where)
                self.assertFalse(isinstance(node.value, str) and "%" in node.value, where)
            if isinstance(node, ast.FormattedValue):
                self.assertIsInstance(node.value, ast.Name, where)
            if isinstance(node, ast.ListComp):
                self.assertEqual(len(node.generators), 1, where)
                self.assertLessEqual(len(node.generators[0].ifs), 1, where)
            if isinstance(node, ast.BinOp):
                self.assertNotIsInstance(node.op, (ast.Div, ast.Pow, ast.MatMult), where)
            if isinstance(node, ast.Compare):
                for operator, right in zip(node.ops, node.comparators):
                    if isinstance(operator, (ast.Is, ast.IsNot)):
                        self.assertIsInstance(right, ast.Constant, where)

    def test_functions(self):
        for path, node in nodes((ast.FunctionDef, ast.Lambda)):
            row = node.args
            self.assertEqual((row.vararg, row.kwarg, row.kwonlyargs, row.posonlyargs), (None, None, [], []), path)
            self.assertTrue(all(arg.annotation is None for arg in row.args), path)
            self.assertEqual(getattr(node, "decorator_list", []), [], path)

    def test_classes(self):
        for path, node in nodes(ast.ClassDef):
            self.assertLessEqual(len(node.bases), 1)
            self.assertEqual(node.decorator_list + node.keywords, [])
            for part in node.body:
                self.assertTrue(isinstance(part, ast.FunctionDef)
                                or isinstance(part, ast.Expr) and isinstance(part.value, ast.Constant))
        methods, values = own_methods_and_values()
        self.assertEqual(methods & values, set())

    def test_names(self):
        for path, tree in trees():
            taken = {name.name for node in tree.body if isinstance(node, ast.ImportFrom) for name in node.names}
            taken |= {node.name for node in tree.body if isinstance(node, ast.ClassDef)} | set(dir(builtins))
            known = {node.name for node in tree.body if hasattr(node, "name")}
            for node in ast.walk(tree):
                if isinstance(node, ast.Name) and isinstance(node.ctx, ast.Load) and node.id in dir(builtins):
                    self.assertIn(node.id, OWN_NAMES, (path, node.lineno))
                name = node.arg if isinstance(node, ast.arg) else None
                if isinstance(node, ast.Name) and isinstance(node.ctx, ast.Store):
                    name = node.id
                if isinstance(node, ast.ExceptHandler):
                    name = node.name
                if name is not None:
                    self.assertNotIn(name, taken, (path, name))
                    self.assertNotIn(name, NEVER, (path, name))
                    self.assertRegex(name, r"\A[A-Za-z][A-Za-z0-9_]*\Z")
            self.assertEqual(known & set(dir(builtins)), set(), path)

    def test_methods_and_values(self):
        methods, values = own_methods_and_values()
        foreign = {name for value in BUILT_IN_VALUES for name in dir(value)}
        for name in (methods | values) - {"__init__"}:
            self.assertNotIn(name, foreign)
            self.assertNotIn(name, NEVER)
        for path, node in nodes(ast.Call):
            if isinstance(node.func, ast.Attribute):
                self.assertIn(node.func.attr, methods | OWN_METHODS, (path, node.lineno))
            self.assertEqual([word.arg for word in node.keywords], [], (path, node.lineno))

    def test_errors(self):
        for path, node in nodes(ast.ExceptHandler):
            self.assertIn(node.type.id, ("LineFault", "ChannelFault", "Misfit"), path)
        for path, node in nodes(ast.Raise):
            self.assertIsInstance(node.exc, ast.Call, path)

    def test_loops_do_not_change_what_they_walk(self):
        for path, node in nodes(ast.For):
            walked = ast.unparse(node.iter).split("(")[0].removesuffix(".values").removesuffix(".items")
            for part in ast.walk(ast.Module(body=node.body, type_ignores=[])):
                if isinstance(part, ast.Call) and isinstance(part.func, ast.Attribute):
                    if part.func.attr in ("append", "pop", "remove", "extend", "insert", "clear", "setdefault"):
                        self.assertNotEqual(ast.unparse(part.func.value), walked, (path, part.lineno))


if __name__ == "__main__":
    unittest.main()
