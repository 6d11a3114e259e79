"""Some of the rules of ../shared/LANGUAGE.md, held against the package's source.

Looked at, in the main: L1, L2, L6 to L8, L10, L12, L14, L16, L17, L20, L21,
L25, L26; more narrowly than they're told, L19, L24 and L27; in part, L15, L23
and L28. Not looked at: L11, L13, L22, most of L18. A pass here is not a pass of
the whole document.
"""

import ast
import builtins
import pathlib
import re
import unittest

PACKAGE = pathlib.Path(__file__).resolve().parent.parent / "pageindex"
FILES = sorted(PACKAGE.glob("*.py"))

STATEMENTS = (ast.Assign, ast.AugAssign, ast.If, ast.While, ast.For, ast.Return, ast.Break, ast.Continue, ast.Pass,
              ast.Raise, ast.Try, ast.Expr, ast.FunctionDef, ast.ClassDef, ast.ImportFrom)
EXPRESSIONS = (ast.Constant, ast.Name, ast.List, ast.Tuple, ast.Dict, ast.BinOp, ast.UnaryOp, ast.BoolOp, ast.Compare,
               ast.IfExp, ast.Call, ast.Attribute, ast.Subscript, ast.Slice, ast.ListComp, ast.JoinedStr,
               ast.FormattedValue, ast.Lambda)
FREE_BUILTINS = set("""len range enumerate zip min max sum abs sorted reversed int str bool list tuple dict set
    frozenset isinstance ord repr any all divmod Exception ValueError KeyError IndexError LookupError
    ZeroDivisionError ArithmeticError OverflowError RuntimeError NotImplementedError StopIteration""".split())
METHODS = set("""append clear copy count endswith extend find get index insert isalnum isalpha isdigit islower isspace
    isupper items join keys ljust lower lstrip partition pop remove replace reverse rfind rjust rpartition rsplit
    rstrip setdefault split splitlines startswith strip update upper values zfill bit_length""".split())
DUNDER_METHODS = {"__init__", "__eq__", "__repr__", "__str__", "__len__"}
BARRED_NAMES = set("""register mro elements open input version_info with_traceback add_note format format_map attrgetter
    breakpoint builtins compile copyright credits delattr dir eval exec exit gc getattr globals hasattr help id
    importlib license locals methodcaller os quit setattr super type vars sys""".split())
BARRED_WORDS = re.compile(r"\b(type|typing|typing_extensions|enum|Enum|IntEnum|StrEnum|Flag|IntFlag|Generic|Protocol"
                          r"|ABC|ABCMeta|namedtuple|NamedTuple|TypedDict|TYPE_CHECKING|abstractmethod)\b"
                          r"|dataclass|overload|contextmanager")
WALKERS = set("list tuple dict sorted sum any all enumerate zip min max".split())
BUILTINS = {name for name in dir(builtins) if not name.startswith("__")}
BUILTIN_VALUES = ("", 0, [], (), {}, set(), b"")
OWN_VALUES = set("count index title find get join lower upper split strip copy add".split())


def tree_of(path):
    return ast.parse(path.read_text(encoding="utf-8"))


TREES = [(path, tree_of(path)) for path in FILES]


def nodes_of(kind):
    return [(path, node) for path, tree in TREES for node in ast.walk(tree) if isinstance(node, kind)]


def own_methods():
    return {item.name for _, node in nodes_of(ast.ClassDef) for item in node.body if isinstance(item, ast.FunctionDef)}


def stored_names(tree):
    """The names that a file gives to values, parameters and defs."""
    for node in ast.walk(tree):
        if isinstance(node, ast.Name) and isinstance(node.ctx, ast.Store):
            yield node.id
        elif isinstance(node, ast.arg):
            yield node.arg
        elif isinstance(node, (ast.FunctionDef, ast.ClassDef)):
            yield node.name


class Language(unittest.TestCase):
    def test_files(self):
        self.assertIn(PACKAGE / "__init__.py", FILES)
        for path in PACKAGE.iterdir():
            if path.name != "__pycache__":
                self.assertRegex(path.name, r"^([a-z][a-z0-9_]*|__init__|__main__)\.py$")
                self.assertNotIn(path.stem, BUILTINS)

    def test_signs_and_sizes(self):
        for path in FILES:
            text = path.read_bytes()
            self.assertLessEqual(set(text), {10, *range(32, 127)}, path)
            lines = text.decode().split("\n")
            self.assertLessEqual(len(lines), 400, path)
            self.assertLessEqual(max(len(line) for line in lines), 120, path)
            self.assertIsNone(BARRED_WORDS.search(text.decode()), path)
        for path, node in nodes_of(ast.FunctionDef):
            self.assertLessEqual(node.end_lineno - node.lineno + 1, 40, (path, node.name))

    def test_imports(self):
        draws = {}
        for path, node in nodes_of(ast.ImportFrom):
            self.assertEqual(node.level, 0, path)
            self.assertRegex(node.module, r"^pageindex\.[a-z_0-9]+$")
            source = PACKAGE / (node.module.split(".")[1] + ".py")
            defined = set(stored_names(tree_of(source)))
            for alias in node.names:
                self.assertIsNone(alias.asname, path)
                self.assertIn(alias.name, defined, path)
            draws.setdefault(path, set()).add(source)
        self.assertNotIn(PACKAGE / "__init__.py", draws)
        while draws:
            ready = [path for path, sources in draws.items() if not sources & set(draws)]
            self.assertTrue(ready, "files draw from one another")
            draws = {path: sources for path, sources in draws.items() if path not in ready}

    def test_statements_and_expressions(self):
        for path, node in nodes_of(ast.stmt):
            self.assertIsInstance(node, STATEMENTS, (path, node.lineno))
            self.assertEqual(getattr(node, "decorator_list", []), [], path)
            if isinstance(node, ast.Assign):
                self.assertEqual(len(node.targets), 1, (path, node.lineno))
                self.assertNotIsInstance(node.targets[0], (ast.Tuple, ast.List), (path, node.lineno))
            if isinstance(node, (ast.For, ast.While)):
                self.assertEqual(node.orelse, [], (path, node.lineno))
        for path, node in nodes_of(ast.expr):
            self.assertIsInstance(node, EXPRESSIONS, (path, node.lineno))
            if isinstance(node, ast.Constant):
                self.assertIn(type(node.value), (int, str, bool, type(None)), (path, node.lineno))
            if isinstance(node, ast.BinOp):
                self.assertNotIsInstance(node.op, (ast.Div, ast.MatMult), (path, node.lineno))

    def test_parameters(self):
        for path, node in nodes_of(ast.arguments):
            self.assertEqual((node.vararg, node.kwarg, node.kwonlyargs, node.posonlyargs), (None, None, [], []), path)

    def test_names(self):
        for path in FILES:
            for name in stored_names(tree_of(path)):
                if name not in DUNDER_METHODS:
                    self.assertRegex(name, r"^[A-Za-z][A-Za-z0-9_]*$", path)
                self.assertNotIn(name, BUILTINS, path)
                self.assertNotIn(name, BARRED_NAMES, path)
        for path, node in nodes_of(ast.Name):
            if node.id in BUILTINS:
                self.assertIn(node.id, FREE_BUILTINS, (path, node.lineno))

    def test_methods_and_values(self):
        methods = own_methods()
        for path, node in nodes_of(ast.Call):
            if isinstance(node.func, ast.Attribute):
                self.assertIn(node.func.attr, methods | METHODS, (path, node.lineno))
        for path, node in nodes_of(ast.Attribute):
            self.assertNotIn(node.attr, BARRED_NAMES, (path, node.lineno))
            if isinstance(node.ctx, ast.Store):
                self.assertNotIn(node.attr, methods, (path, node.lineno))
                taken = any(hasattr(value, node.attr) for value in BUILTIN_VALUES)
                self.assertFalse(taken and node.attr not in OWN_VALUES, (path, node.attr))
        for name in methods - DUNDER_METHODS - METHODS - {"add", "discard"}:
            self.assertFalse(any(hasattr(value, name) for value in BUILTIN_VALUES), name)

    def test_locals_are_not_called_like_classes_or_imports(self):
        for path in FILES:
            body = tree_of(path).body
            taken = {name for node in body if isinstance(node, (ast.ClassDef, ast.ImportFrom))
                     for name in top_names(node)}
            for node in body:
                for inner in (node.body if isinstance(node, ast.ClassDef) else [node]):
                    if isinstance(inner, ast.FunctionDef):
                        self.assertEqual(taken & (set(stored_names(inner)) - {inner.name}), set(), path)

    def test_errors(self):
        own = {node.name for _, node in nodes_of(ast.ClassDef)}
        for path, node in nodes_of(ast.ExceptHandler):
            self.assertIn(getattr(node.type, "id", None), own, (path, node.lineno))
        for path, node in nodes_of(ast.Raise):
            self.assertIsInstance(node.exc, ast.Call, (path, node.lineno))
            self.assertIn(node.exc.func.id, own, (path, node.lineno))
        for path, node in nodes_of(ast.Try):
            self.assertEqual(node.finalbody, [], (path, node.lineno))

    def test_is_and_annotations(self):
        for path, node in nodes_of(ast.Compare):
            for operator, right in zip(node.ops, node.comparators):
                if isinstance(operator, (ast.Is, ast.IsNot)):
                    self.assertIsInstance(right, ast.Constant, (path, node.lineno))
                    self.assertIn(right.value, (None, True, False), (path, node.lineno))
        for path, node in nodes_of((ast.arg, ast.FunctionDef)):
            self.assertIsNone(getattr(node, "annotation", None), (path, node.lineno))
            self.assertIsNone(getattr(node, "returns", None), (path, node.lineno))

    def test_walked_at_once(self):
        walked = {id(one) for _, node in nodes_of((ast.For, ast.comprehension)) for one in [node.iter]}
        walked |= {id(one) for _, node in nodes_of(ast.Call) if getattr(node.func, "id", "") in WALKERS
                   for one in node.args[:1]}
        for path, node in nodes_of(ast.Call):
            name = getattr(node.func, "id", "") or getattr(node.func, "attr", "")
            if name in ("zip", "enumerate", "reversed", "range", "items", "keys", "values"):
                self.assertIn(id(node), walked, (path, node.lineno))

    def test_no_sets_and_no_powers(self):
        for path, node in nodes_of(ast.Name):
            self.assertNotIn(node.id, ("set", "frozenset", "chr"), (path, node.lineno))
        for path, node in nodes_of(ast.BinOp):
            self.assertNotIsInstance(node.op, ast.Pow, (path, node.lineno))
        for path, node in nodes_of(ast.Constant):
            if isinstance(node.value, str):
                self.assertNotIn("%", node.value, (path, node.lineno))

    def test_beginnings_of_objects_give_nothing_back(self):
        for path, node in nodes_of(ast.FunctionDef):
            if node.name == "__init__":
                self.assertFalse(any(isinstance(inner, ast.Return) for inner in ast.walk(node)), path)

    def test_the_top_of_a_file(self):
        for path in FILES:
            tree = tree_of(path)
            self.assertIsNotNone(ast.get_docstring(tree), path)
            names = [name for node in tree.body for name in top_names(node)]
            self.assertEqual(len(names), len(set(names)), path)
            for node in tree.body[1:]:
                self.assertIsInstance(node, (ast.ImportFrom, ast.FunctionDef, ast.ClassDef, ast.Assign), path)


def top_names(node):
    if isinstance(node, (ast.FunctionDef, ast.ClassDef)):
        return [node.name]
    if isinstance(node, ast.ImportFrom):
        return [alias.name for alias in node.names]
    return [target.id for target in getattr(node, "targets", [])]
