"""The package's own files against the rules of ../shared/LANGUAGE.md, as far as they can be seen from outside."""

import ast
import builtins
import pathlib
import re
import unittest

PACKAGE = pathlib.Path(__file__).resolve().parent.parent / "lampshows"
FILES = sorted(PACKAGE.rglob("*.py"))

OWN_NAMES = """len range enumerate zip min max sum abs sorted reversed int str bool list tuple dict set frozenset isinstance
    ord repr any all divmod Exception ValueError TypeError KeyError IndexError LookupError ZeroDivisionError
    ArithmeticError OverflowError RuntimeError NotImplementedError AttributeError StopIteration""".split()
METHODS = """append clear copy count endswith extend find get index insert isalnum isalpha isdigit islower isspace isupper
    items join keys ljust lower lstrip partition pop remove replace reverse rfind rjust rpartition rsplit rstrip
    setdefault split splitlines startswith strip update upper values zfill bit_length""".split()
UNUSED = """register mro elements open input version_info with_traceback add_note attrgetter breakpoint builtins compile
    copyright credits delattr dir eval exec exit gc getattr globals hasattr help id importlib license locals
    methodcaller os quit setattr super type vars sys""".split()
NO_WORDS = re.compile(
    r"\b(type|typing|typing_extensions|enum|Enum|IntEnum|StrEnum|Flag|IntFlag|Generic|Protocol|ABC|ABCMeta|namedtuple"
    r"|NamedTuple|TypedDict|TYPE_CHECKING|abstractmethod)\b|dataclass|overload|contextmanager"
)
CHANGES = "append clear extend insert pop remove reverse setdefault update".split()
VALUE_NAMES = "count index title find get join lower upper split strip copy add".split()
TWO_UNDERSCORES = ["__init__", "__eq__", "__repr__", "__str__", "__len__"]

STATEMENTS = (
    ast.Assign, ast.AugAssign, ast.If, ast.While, ast.For, ast.Return, ast.Break, ast.Continue, ast.Pass, ast.Raise,
    ast.Try, ast.Expr, ast.FunctionDef, ast.ClassDef, ast.ImportFrom,
)
EXPRESSIONS = (
    ast.Constant, ast.Name, ast.List, ast.Tuple, ast.Dict, ast.BinOp, ast.UnaryOp, ast.BoolOp, ast.Compare, ast.IfExp,
    ast.Call, ast.Attribute, ast.Subscript, ast.Slice, ast.ListComp, ast.JoinedStr, ast.FormattedValue, ast.Lambda,
)


def trees():
    return [(path, ast.parse(path.read_text(encoding="utf-8"))) for path in FILES]


def nodes(kind):
    return [(path, node) for path, tree in trees() for node in ast.walk(tree) if isinstance(node, kind)]


def module_of(path):
    parts = ("lampshows",) + path.relative_to(PACKAGE).with_suffix("").parts
    return ".".join(part for part in parts if part != "__init__")


def is_plain(node):
    if isinstance(node, ast.UnaryOp):
        return isinstance(node.op, ast.USub) and isinstance(node.operand, ast.Constant)
    if isinstance(node, (ast.List, ast.Tuple)):
        return all(is_plain(part) for part in node.elts)
    if isinstance(node, ast.Dict):
        return all(is_plain(part) for part in node.keys + node.values)
    return isinstance(node, ast.Constant)


def top_names(tree):
    names = []
    for node in tree.body:
        if isinstance(node, ast.Assign):
            names += [target.id for target in node.targets]
        elif isinstance(node, (ast.FunctionDef, ast.ClassDef)):
            names.append(node.name)
        elif isinstance(node, ast.ImportFrom):
            names += [alias.asname or alias.name for alias in node.names]
    return names


class Form(unittest.TestCase):
    def none_of(self, found):
        self.assertEqual([f"{path.name}:{node.lineno}" for path, node in found], [])

    def test_files(self):
        self.assertIn(PACKAGE / "__init__.py", FILES)
        for path in PACKAGE.rglob("*"):
            if "__pycache__" not in path.parts and path.is_file():
                self.assertRegex(path.name, r"\A(__init__|__main__|[a-z][a-z0-9_]*)\.py\Z")
                self.assertNotIn(path.stem, dir(builtins))

    def test_signs_and_sizes(self):
        for path in FILES:
            text = path.read_text(encoding="utf-8")
            self.assertRegex(text, r"\A[ -~\n]*\Z", path.name)
            self.assertIsNone(NO_WORDS.search(text), path.name)
            self.assertLessEqual(len(text.splitlines()), 400, path.name)
            self.assertLessEqual(max(len(line) for line in text.splitlines()), 120, path.name)
        self.none_of([(p, n) for p, n in nodes(ast.FunctionDef) if n.end_lineno - n.lineno >= 40])

    def test_imports(self):
        draws = {}
        defined = {module_of(path): top_names(tree) for path, tree in trees()}
        for path, node in nodes(ast.ImportFrom):
            self.assertEqual(node.level, 0)
            for alias in node.names:
                self.assertIn(alias.name, defined[node.module])
                self.assertIsNone(alias.asname)
            draws.setdefault(module_of(path), []).append(node.module)
        self.assertNotIn("lampshows", draws)
        self.assertNotIn("lampshows", [module for drawn in draws.values() for module in drawn])
        while draws:
            free = [module for module in draws if not any(drawn in draws for drawn in draws[module])]
            self.assertNotEqual(free, [], "files draw from one another")
            draws = {module: draws[module] for module in draws if module not in free}

    def test_tops(self):
        for path, tree in trees():
            self.assertEqual(len(top_names(tree)), len(set(top_names(tree))), path.name)
            for node in tree.body[1:]:
                if isinstance(node, ast.Assign):
                    self.assertTrue(is_plain(node.value), (path.name, node.lineno))
                    inner = [part for part in ast.walk(node.value) if isinstance(part, (ast.List, ast.Dict))]
                    self.assertLessEqual(len(inner), 1, (path.name, node.lineno))
                else:
                    self.assertIsInstance(node, (ast.ImportFrom, ast.FunctionDef, ast.ClassDef))

    def test_statements(self):
        self.none_of([(p, n) for p, n in nodes(ast.stmt) if not isinstance(n, STATEMENTS)])
        self.none_of([(p, n) for p, n in nodes(ast.Assign) if len(n.targets) > 1 or isinstance(n.targets[0], ast.Tuple)])
        self.none_of([(p, n) for p, n in nodes((ast.For, ast.While)) if n.orelse])
        self.none_of([(p, n) for p, n in nodes(ast.Try) if n.finalbody])
        tops = [tree.body[0] for path, tree in trees()]
        docs = [ast.dump(node, include_attributes=True) for node in tops]
        for path, node in nodes(ast.Expr):
            if not isinstance(node.value, ast.Call):
                self.assertIn(ast.dump(node, include_attributes=True), docs)

    def test_what_is_walked_is_not_changed(self):
        for path, loop in nodes(ast.For):
            walked = loop.iter.args if isinstance(loop.iter, ast.Call) else [loop.iter]
            walked = [ast.unparse(part) for part in walked]
            for node in ast.walk(ast.Module(loop.body, [])):
                if isinstance(node, (ast.Subscript, ast.Attribute, ast.Name)) and isinstance(node.ctx, ast.Store):
                    kept = node.value if isinstance(node, ast.Subscript) else node
                    self.assertNotIn(ast.unparse(kept), walked, (path.name, node.lineno))
                elif isinstance(node, ast.Call) and isinstance(node.func, ast.Attribute) and node.func.attr in CHANGES:
                    self.assertNotIn(ast.unparse(node.func.value), walked, (path.name, node.lineno))

    def test_expressions(self):
        self.none_of([(p, n) for p, n in nodes(ast.expr) if not isinstance(n, EXPRESSIONS)])
        self.none_of([(p, n) for p, n in nodes(ast.Constant) if not isinstance(n.value, (int, str, type(None)))])
        self.none_of([(p, n) for p, n in nodes(ast.Constant) if isinstance(n.value, str) and "%" in n.value])
        self.none_of([(p, n) for p, n in nodes(ast.BinOp) if isinstance(n.op, (ast.Div, ast.Pow, ast.MatMult))])
        self.none_of([(p, n) for p, n in nodes(ast.ListComp) if len(n.generators) > 1 or len(n.generators[0].ifs) > 1])
        for path, node in nodes(ast.Compare):
            for sign, side in zip(node.ops, node.comparators):
                if isinstance(sign, (ast.Is, ast.IsNot)):
                    self.assertTrue(isinstance(side, ast.Constant) and side.value in (None, True, False))

    def test_functions(self):
        for path, node in nodes(ast.FunctionDef):
            told = node.args
            self.assertEqual((node.decorator_list, told.vararg, told.kwarg, told.kwonlyargs, told.posonlyargs, node.returns),
                             ([], None, None, [], [], None))
            self.assertTrue(all(is_plain(value) for value in told.defaults))
            self.assertEqual([argument.annotation for argument in told.args], [None] * len(told.args))

    def test_classes(self):
        for path, node in nodes(ast.ClassDef):
            self.assertEqual(node.decorator_list + node.keywords, [])
            self.assertLessEqual(len(node.bases), 1)
            for part in node.body:
                self.assertIsInstance(part, (ast.FunctionDef, ast.Pass))
        methods = [part.name for path, node in nodes(ast.ClassDef) for part in node.body if hasattr(part, "name")]
        stored = [node.attr for path, node in nodes(ast.Attribute) if isinstance(node.ctx, ast.Store)]
        self.assertEqual(set(methods) & set(stored), set())
        taken = {attribute for kind in (str, int, list, dict, set, bytes) for attribute in dir(kind)} | {"args"}
        self.assertEqual({value for value in stored if value in taken and value not in VALUE_NAMES}, set())
        self.assertEqual({m for m in methods if m in taken and m not in METHODS + TWO_UNDERSCORES}, set())

    def test_names(self):
        for path, tree in trees():
            top = top_names(tree)
            barred = [name for name in top if name not in [n.name for n in tree.body if isinstance(n, ast.FunctionDef)]]
            for node in ast.walk(tree):
                if isinstance(node, ast.Name):
                    self.assertNotIn(node.id, UNUSED)
                    self.assertRegex(node.id, r"\A[A-Za-z][A-Za-z0-9_]*\Z")
                    if isinstance(node.ctx, ast.Load) and node.id in dir(builtins):
                        self.assertIn(node.id, OWN_NAMES)
                    if isinstance(node.ctx, ast.Store) and node.col_offset > 0:
                        self.assertNotIn(node.id, dir(builtins) + barred)
                elif isinstance(node, ast.arg):
                    self.assertNotIn(node.arg, dir(builtins) + barred)

    def test_methods_called(self):
        own = [part.name for path, node in nodes(ast.ClassDef) for part in node.body if hasattr(part, "name")]
        for path, node in nodes(ast.Call):
            if isinstance(node.func, ast.Attribute):
                self.assertIn(node.func.attr, METHODS + own)
            for word in node.keywords:
                self.assertIn(word.arg, ("key", "reverse", "default", "start", "strict"))

    def test_errors(self):
        classes = {node.name for path, node in nodes(ast.ClassDef)}
        for path, node in nodes(ast.ExceptHandler):
            self.assertIsInstance(node.type, ast.Name)
            self.assertIn(node.type.id, classes | {"KeyError", "ZeroDivisionError", "StopIteration"})
        self.none_of([(p, n) for p, n in nodes(ast.Raise) if not isinstance(n.exc, ast.Call)])


if __name__ == "__main__":
    unittest.main()
