"""The package's own files, held against the part of Python that it keeps to, as far as a test can see it."""

import ast
import builtins
import pathlib
import re
import unittest

PACKAGE = pathlib.Path(__file__).resolve().parent.parent / "clauseproofs"

NODES = set("""
    Module Import ImportFrom alias FunctionDef ClassDef arguments arg Expr Assign AugAssign If While For Return Break
    Continue Pass Raise Try ExceptHandler Constant Name Attribute Subscript Slice List Tuple Dict Set BinOp UnaryOp BoolOp
    Compare IfExp Call keyword Lambda ListComp comprehension JoinedStr FormattedValue Load Store Add Sub Mult FloorDiv Mod
    Pow BitAnd BitOr BitXor LShift RShift Invert USub UAdd Not And Or Eq NotEq Lt LtE Gt GtE Is IsNot In NotIn
""".split())

OWN_NAMES = set("""
    len range enumerate zip min max sum abs sorted reversed int str bool list tuple dict set frozenset isinstance ord repr
    any all divmod Exception ValueError TypeError KeyError IndexError LookupError ZeroDivisionError ArithmeticError
    OverflowError RuntimeError NotImplementedError AttributeError StopIteration
""".split())

METHODS = set("""
    append clear copy count endswith extend find get index insert isalnum isalpha isdigit islower isspace isupper items
    join keys ljust lower lstrip partition pop remove replace reverse rfind rjust rpartition rsplit rstrip setdefault split
    splitlines startswith strip update upper values zfill bit_length
""".split())

UNUSED_NAMES = set("""
    register mro elements open input version_info with_traceback add_note attrgetter breakpoint builtins compile copyright
    credits delattr dir eval exec exit gc getattr globals hasattr help id importlib license locals methodcaller os quit
    setattr super type vars sys format format_map
""".split())

UNUSED_WORDS = re.compile(
    r"\b(type|typing|typing_extensions|enum|Enum|IntEnum|StrEnum|Flag|IntFlag|Generic|Protocol|ABC|ABCMeta|namedtuple"
    r"|NamedTuple|TypedDict|TYPE_CHECKING|abstractmethod)\b|dataclass|overload|contextmanager"
)

PLAIN_FILE = re.compile(r"[a-z][a-z0-9_]*\.py|__init__\.py")
PLAIN_NAME = re.compile(r"[A-Za-z][A-Za-z0-9_]*")
TWO_UNDERSCORES = ("__init__", "__eq__", "__repr__", "__str__", "__len__")


def files():
    return [path for path in sorted(PACKAGE.iterdir()) if path.name != "__pycache__"]


def is_plain(node):
    """A plain value, as a module's top may hold it."""
    if isinstance(node, ast.UnaryOp):
        return isinstance(node.op, ast.USub) and is_plain(node.operand)
    if isinstance(node, ast.Tuple):
        return all(is_plain(part) for part in node.elts)
    return isinstance(node, ast.Constant) and (node.value is None or type(node.value) in (int, str, bool))


def bound_names(tree):
    """Every name that a file binds, anywhere in it."""
    names = set()
    for node in ast.walk(tree):
        if isinstance(node, (ast.FunctionDef, ast.ClassDef)):
            names.add(node.name)
        elif isinstance(node, ast.arg):
            names.add(node.arg)
        elif isinstance(node, ast.alias):
            names.add(node.asname or node.name)
        elif isinstance(node, ast.Name) and isinstance(node.ctx, ast.Store):
            names.add(node.id)
    return names


class Language(unittest.TestCase):
    def setUp(self):
        self.sources = {path.name: path.read_text(encoding="utf-8") for path in files() if path.suffix == ".py"}
        self.trees = {name: ast.parse(source) for name, source in self.sources.items()}

    def nodes(self, *kinds):
        for name, tree in self.trees.items():
            for node in ast.walk(tree):
                if not kinds or isinstance(node, kinds):
                    yield f"{name}:{getattr(node, 'lineno', 0)}", node

    def test_files(self):
        self.assertIn("book.py", self.sources)
        for path in files():
            self.assertTrue(path.is_file() and PLAIN_FILE.fullmatch(path.name), path.name)
            self.assertNotIn(path.stem, vars(builtins))

    def test_signs_and_words(self):
        for name, source in self.sources.items():
            self.assertTrue(all(sign == "\n" or " " <= sign <= "~" for sign in source), name)
            self.assertIsNone(UNUSED_WORDS.search(source), name)

    def test_size(self):
        for name, source in self.sources.items():
            lines = source.split("\n")
            self.assertLessEqual(len(lines), 400, name)
            self.assertLessEqual(max(len(line) for line in lines), 120, name)
        for where, node in self.nodes(ast.FunctionDef):
            self.assertLessEqual(node.end_lineno - node.lineno + 1, 40, where)

    def test_imports(self):
        drawn = {name: set() for name in self.trees}
        for name, tree in self.trees.items():
            for node in ast.walk(tree):
                self.assertNotIsInstance(node, ast.Import, name)
                if isinstance(node, ast.ImportFrom):
                    package, dot, module = node.module.partition(".")
                    self.assertEqual((package, node.level), ("clauseproofs", 0), name)
                    self.assertIn(node, tree.body, name)
                    defined = {part.name for part in self.trees[module + ".py"].body if hasattr(part, "name")}
                    defined |= {
                        part.targets[0].id for part in self.trees[module + ".py"].body if isinstance(part, ast.Assign)
                    }
                    self.assertLessEqual({alias.name for alias in node.names}, defined, name)
                    drawn[name] |= {module + ".py", "__init__.py"}
        done = []
        while len(done) < len(drawn):
            ready = [name for name in drawn if name not in done and drawn[name] <= set(done)]
            self.assertTrue(ready, "two files draw from one another")
            done += ready

    def test_top_of_a_module(self):
        for name, tree in self.trees.items():
            self.assertIsNotNone(ast.get_docstring(tree), name)
            bound = []
            for node in tree.body[1:]:
                self.assertIsInstance(node, (ast.ImportFrom, ast.FunctionDef, ast.ClassDef, ast.Assign), name)
                if isinstance(node, ast.Assign):
                    self.assertTrue(is_plain(node.value), name)
                    bound.append(node.targets[0].id)
                elif isinstance(node, ast.ImportFrom):
                    bound += [alias.name for alias in node.names]
                else:
                    bound.append(node.name)
            self.assertEqual(len(bound), len(set(bound)), name)

    def test_statements_and_expressions(self):
        for where, node in self.nodes():
            self.assertIn(type(node).__name__, NODES, where)
        for where, node in self.nodes(ast.For, ast.While):
            self.assertEqual(node.orelse, [], where)
        for where, node in self.nodes(ast.Assign):
            self.assertEqual(len(node.targets), 1, where)
        for where, node in self.nodes(ast.ListComp):
            self.assertEqual(len(node.generators), 1, where)
            self.assertLessEqual(len(node.generators[0].ifs), 1, where)
        for where, node in self.nodes(ast.Constant):
            self.assertIn(type(node.value), (int, str, bool, type(None)), where)

    def test_functions_and_classes(self):
        for where, node in self.nodes(ast.FunctionDef, ast.ClassDef):
            self.assertEqual(node.decorator_list, [], where)
        for where, node in self.nodes(ast.arguments):
            self.assertEqual((node.vararg, node.kwarg, node.kwonlyargs, node.posonlyargs), (None, None, [], []), where)
        for where, node in self.nodes(ast.ClassDef):
            self.assertLessEqual(len(node.bases), 1, where)
            for part in node.body:
                is_text = isinstance(part, ast.Expr) and isinstance(part.value, ast.Constant)
                self.assertTrue(is_text or isinstance(part, ast.FunctionDef), where)

    def test_names(self):
        for name, tree in self.trees.items():
            bound = bound_names(tree)
            for one in bound:
                self.assertTrue(PLAIN_NAME.fullmatch(one) or one in TWO_UNDERSCORES, (name, one))
                self.assertNotIn(one, UNUSED_NAMES, name)
                self.assertNotIn(one, vars(builtins), name)
            for node in ast.walk(tree):
                if isinstance(node, ast.Name) and isinstance(node.ctx, ast.Load):
                    self.assertIn(node.id, bound | OWN_NAMES, name)

    def test_locals_are_not_called_like_imports_or_classes(self):
        for name, tree in self.trees.items():
            top = {node.name for node in tree.body if isinstance(node, (ast.ClassDef, ast.FunctionDef))}
            top |= {alias.name for node in tree.body if isinstance(node, ast.ImportFrom) for alias in node.names}
            for node in ast.walk(tree):
                if isinstance(node, ast.arg):
                    self.assertNotIn(node.arg, top, name)
                if isinstance(node, ast.Name) and isinstance(node.ctx, ast.Store):
                    self.assertNotIn(node.id, top, name)

    def test_methods_and_values(self):
        own = {node.name for where, part in self.nodes(ast.ClassDef) for node in part.body if hasattr(node, "name")}
        given = set()
        called = []
        for where, node in self.nodes(ast.Attribute):
            self.assertNotIn(node.attr, UNUSED_NAMES, where)
            if isinstance(node.ctx, ast.Store):
                given.add(node.attr)
        for where, node in self.nodes(ast.Call):
            if isinstance(node.func, ast.Attribute):
                called.append(node.func)
                self.assertIn(node.func.attr, own | METHODS, where)
        self.assertEqual(own & given, set())
        for where, node in self.nodes(ast.Attribute):
            self.assertTrue(node in called or node.attr in given, where)

    def test_sets_and_walks(self):
        for name, tree in self.trees.items():
            inside = {id(part) for node in ast.walk(tree) for part in self.walked_at_once(node)}
            for node in ast.walk(tree):
                if isinstance(node, ast.Call) and self.called(node) in ("set", "range", "zip", "enumerate", "reversed"):
                    self.assertIn(id(node), inside, f"{name}:{node.lineno}")
                if isinstance(node, ast.Call) and self.called(node) in ("items", "keys", "values"):
                    self.assertIn(id(node), inside, f"{name}:{node.lineno}")

    def called(self, node):
        return node.func.id if isinstance(node.func, ast.Name) else getattr(node.func, "attr", None)

    def walked_at_once(self, node):
        if isinstance(node, (ast.For, ast.comprehension)):
            return [node.iter]
        if isinstance(node, ast.Call) and self.called(node) in ("list", "tuple", "sorted", "len", "sum", "any", "all"):
            return node.args[:1]
        if isinstance(node, ast.Compare):
            return [node.left] + node.comparators
        return []


if __name__ == "__main__":
    unittest.main()
