"""The form of the package: what of ../shared/LANGUAGE.md can be seen by looking at the files."""

import ast
import builtins
import re
import unittest
from pathlib import Path

PACKAGE = Path(__file__).resolve().parent.parent / "stirround"
OWN_NAMES = set(
    "len range enumerate zip min max sum abs sorted reversed int str bool list tuple dict set isinstance ord repr"
    " any all divmod Exception ValueError TypeError KeyError IndexError LookupError ZeroDivisionError"
    " ArithmeticError OverflowError RuntimeError NotImplementedError AttributeError StopIteration".split()
)
METHODS = set(
    "append clear copy count endswith extend find get index insert isalnum isalpha isdigit islower isspace isupper"
    " items join keys ljust lower lstrip partition pop remove replace reverse rfind rjust rpartition rsplit rstrip"
    " setdefault split splitlines startswith strip update upper values zfill bit_length".split()
)
DUNDERS = {"__init__", "__eq__", "__repr__", "__str__", "__len__"}
STATEMENTS = (
    ast.Module, ast.FunctionDef, ast.ClassDef, ast.ImportFrom, ast.Assign, ast.AugAssign, ast.If, ast.While, ast.For,
    ast.Return, ast.Break, ast.Continue, ast.Pass, ast.Raise, ast.Try, ast.ExceptHandler, ast.Expr,
)
EXPRESSIONS = (
    ast.Constant, ast.List, ast.Tuple, ast.Dict, ast.BinOp, ast.UnaryOp, ast.BoolOp, ast.Compare, ast.IfExp, ast.Call,
    ast.Attribute, ast.Subscript, ast.Slice, ast.ListComp, ast.comprehension, ast.JoinedStr, ast.FormattedValue,
    ast.Name, ast.Lambda, ast.arguments, ast.arg, ast.keyword, ast.alias, ast.expr_context, ast.operator,
    ast.unaryop, ast.boolop, ast.cmpop,
)
BANNED_WORDS = (
    r"\b(type|typing|typing_extensions|enum|Enum|IntEnum|StrEnum|Flag|IntFlag|Generic|Protocol|ABC|ABCMeta"
    r"|namedtuple|NamedTuple|TypedDict|TYPE_CHECKING|abstractmethod)\b|dataclass|overload|contextmanager"
)
BANNED_NAMES = set(
    "register mro elements open input version_info with_traceback add_note attrgetter breakpoint builtins compile"
    " copyright credits delattr dir eval exec exit gc getattr globals hasattr help id importlib license locals"
    " methodcaller os quit setattr super vars sys chr format format_map".split()
)
# Keywords of Python's own names (L22); own functions of the package are called without any.
KEYWORDS = {
    "sorted": {"key", "reverse"}, "min": {"key", "default"}, "max": {"key", "default"}, "sum": {"start"},
    "enumerate": {"start"}, "zip": {"strict"},
}
ERRORS_TO_TAKE = {"KeyError", "ZeroDivisionError", "StopIteration"}
# Names that no value of an object bears (L26), beside those that Python's own values have as methods.
VALUES_TO_LEAVE = set(
    "items keys values pop update append clear extend insert remove reverse setdefault sort args encode format".split()
)
VALUES_ALLOWED = set("count index title find get join lower upper split strip copy add".split())
WALKED = {"zip", "enumerate", "reversed", "range"}
WALKERS = {"list", "tuple", "dict", "sorted", "sum", "any", "all", "enumerate", "zip", "min", "max"}


def called_name(node):
    return node.func.id if isinstance(node, ast.Call) and isinstance(node.func, ast.Name) else None


class Source:
    def __init__(self, path):
        self.path = path
        self.text = path.read_text(encoding="utf-8")
        self.tree = ast.parse(self.text)
        self.nodes = list(ast.walk(self.tree))
        self.parents = {child: node for node in self.nodes for child in ast.iter_child_nodes(node)}

    def of(self, *kinds):
        return [node for node in self.nodes if isinstance(node, kinds)]

    def bound_at_top(self):
        names = []
        for node in self.tree.body:
            if isinstance(node, (ast.FunctionDef, ast.ClassDef)):
                names.append(node.name)
            elif isinstance(node, ast.Assign):
                names.append(node.targets[0].id)
            elif isinstance(node, ast.ImportFrom):
                names.extend(alias.name for alias in node.names)
        return names

    def bound_below(self):
        names = [node.arg for node in self.of(ast.arg)]
        names.extend(node.id for node in self.of(ast.Name) if isinstance(node.ctx, ast.Store))
        names.extend(node.name for node in self.of(ast.ExceptHandler) if node.name)
        return [name for name in names if name not in {target.id for target in self.top_targets()}]

    def top_targets(self):
        return [node.targets[0] for node in self.tree.body if isinstance(node, ast.Assign)]


class LanguageTest(unittest.TestCase):
    @classmethod
    def setUpClass(cls):
        cls.sources = [Source(path) for path in sorted(PACKAGE.glob("*.py"))]

    def each(self, *kinds):
        """All nodes of these kinds: (file and line, source, node)."""
        found = [(source, node) for source in self.sources for node in source.of(*kinds)]
        return [(f"{source.path.name}:{getattr(node, 'lineno', 1)}", source, node) for source, node in found]

    def test_files(self):
        there = sorted(path.name for path in PACKAGE.iterdir() if path.name != "__pycache__")
        self.assertEqual(there, [source.path.name for source in self.sources])
        self.assertIn("__init__.py", there)
        for name in there:
            self.assertRegex(name, r"\A([a-z][a-z0-9_]*|__init__|__main__)\.py\Z")

    def test_signs_and_sizes(self):
        for source in self.sources:
            with self.subTest(file=source.path.name):
                self.assertRegex(source.text, r"\A[ -~\n]*\Z")
                rows = source.text.split("\n")
                self.assertLessEqual(len(rows), 401)
                self.assertLessEqual(max(len(row) for row in rows), 120)
                self.assertIsNone(re.search(BANNED_WORDS, source.text))
        for where, source, node in self.each(ast.FunctionDef):
            with self.subTest(where):
                self.assertLessEqual(node.end_lineno - node.lineno + 1, 40)

    def test_imports(self):
        draws = {}
        tops = {source.path.stem: source for source in self.sources}
        for where, source, node in self.each(ast.ImportFrom):
            with self.subTest(where):
                self.assertEqual(node.level, 0)
                self.assertRegex(node.module, r"\Astirround\.[a-z]+\Z")
                drawn_from = node.module.split(".")[1]
                defined = [one for one in tops[drawn_from].tree.body if not isinstance(one, ast.ImportFrom)]
                names = [one.name if hasattr(one, "name") else one.targets[0].id for one in defined[1:]]
                for alias in node.names:
                    self.assertIn(alias.name, names)
                    self.assertIsNone(alias.asname)
                draws.setdefault(source.path.stem, []).append(drawn_from)
        while draws:
            free = [name for name in draws if not set(draws[name]) & set(draws)]
            self.assertTrue(free, f"files that draw from one another: {draws}")
            for name in free:
                draws.pop(name)

    def test_tops(self):
        for source in self.sources:
            with self.subTest(file=source.path.name):
                self.assertIsNotNone(ast.get_docstring(source.tree))
                for node in source.tree.body[1:]:
                    self.assertIsInstance(node, (ast.ImportFrom, ast.FunctionDef, ast.ClassDef, ast.Assign))
                names = source.bound_at_top()
                self.assertEqual(len(names), len(set(names)))
        for where, source, node in self.each(ast.ClassDef):
            with self.subTest(where):
                self.assertLessEqual(len(node.bases), 1)
                self.assertEqual((node.keywords, node.decorator_list), ([], []))
                for inner in node.body:
                    self.assertIsInstance(inner, (ast.FunctionDef, ast.Pass))

    def test_lists_and_dicts_of_the_top_are_only_read(self):
        for source in self.sources:
            tops = [node for node in source.tree.body if isinstance(node, ast.Assign)]
            kept = {node.targets[0].id: node.value for node in tops if isinstance(node.value, (ast.List, ast.Dict))}
            for value in kept.values():
                for inner in list(ast.walk(value))[1:]:
                    self.assertNotIsInstance(inner, (ast.List, ast.Dict))
            for node in source.of(ast.Name):
                if node.id in kept and isinstance(node.ctx, ast.Load):
                    with self.subTest(file=source.path.name, line=node.lineno):
                        above = source.parents[node]
                        indexed = isinstance(above, ast.Subscript) and above.value is node
                        asked = isinstance(above, ast.Compare) or called_name(above) in ("len", "list", "dict", "sorted")
                        self.assertTrue(asked or indexed and isinstance(above.ctx, ast.Load))

    def test_functions(self):
        for where, source, node in self.each(ast.FunctionDef):
            with self.subTest(where):
                arguments = node.args
                self.assertEqual((arguments.vararg, arguments.kwarg, arguments.kwonlyargs), (None, None, []))
                self.assertEqual((arguments.posonlyargs, node.decorator_list), ([], []))

    def test_statements_and_expressions(self):
        for where, source, node in self.each(ast.AST):
            with self.subTest(where):
                self.assertIsInstance(node, STATEMENTS + EXPRESSIONS)
                if isinstance(node, ast.Assign):
                    self.assertEqual(len(node.targets), 1)
                    self.assertNotIsInstance(node.targets[0], (ast.Tuple, ast.List))
                if isinstance(node, (ast.For, ast.While)):
                    self.assertEqual(node.orelse, [])
                if isinstance(node, ast.Try):
                    self.assertEqual(node.finalbody, [])
                if isinstance(node, ast.Expr) and node is not source.tree.body[0]:
                    self.assertIsInstance(node.value, ast.Call)
                if isinstance(node, ast.Constant):
                    self.assertIn(type(node.value), (int, str, bool, type(None)))
                    self.assertNotIn("%", str(node.value))
                if isinstance(node, ast.ListComp):
                    self.assertEqual(len(node.generators), 1)
                    self.assertLessEqual(len(node.generators[0].ifs), 1)
                if isinstance(node, (ast.Div, ast.MatMult)):
                    self.fail("a sum that is not there")

    def test_is_beside_none_true_false(self):
        for where, source, node in self.each(ast.Compare):
            with self.subTest(where):
                if any(isinstance(operator, (ast.Is, ast.IsNot)) for operator in node.ops):
                    sides = [ast.unparse(side) for side in [node.left] + node.comparators]
                    self.assertTrue({"None", "True", "False"} & set(sides))

    def test_names(self):
        for source in self.sources:
            known = OWN_NAMES | set(source.bound_at_top()) | set(source.bound_below())
            known |= {node.name for node in source.of(ast.FunctionDef)}
            for node in source.of(ast.Name):
                with self.subTest(file=source.path.name, line=node.lineno):
                    self.assertIn(node.id, known)
            taken = set(dir(builtins))
            taken |= {node.name for node in source.of(ast.ClassDef)}
            taken |= {alias.name for node in source.of(ast.ImportFrom) for alias in node.names}
            self.assertEqual(set(source.bound_below()) & taken, set())
            bound = set(source.bound_at_top()) | set(source.bound_below())
            bound |= {node.name for node in source.of(ast.FunctionDef)}
            self.assertEqual(bound & BANNED_NAMES, set())
            for name in bound - DUNDERS:
                self.assertRegex(name, r"\A[A-Za-z][A-Za-z0-9_]*\Z")

    def test_attributes(self):
        own = set()
        for source in self.sources:
            for node in source.of(ast.ClassDef):
                own |= {inner.name for inner in node.body if isinstance(inner, ast.FunctionDef)}
            own |= {node.attr for node in source.of(ast.Attribute) if isinstance(node.ctx, ast.Store)}
        self.assertEqual(own & BANNED_NAMES, set())
        for where, source, node in self.each(ast.Attribute):
            with self.subTest(where):
                self.assertIn(node.attr, own | METHODS)

    def test_walked_at_once_and_sets(self):
        for where, source, node in self.each(ast.Call):
            with self.subTest(where):
                above = source.parents[node]
                if called_name(node) in WALKED:
                    walked = isinstance(above, (ast.For, ast.comprehension)) and above.iter is node
                    self.assertTrue(walked or called_name(above) in WALKERS)
                if called_name(node) == "set":
                    among_sets = isinstance(above, ast.BinOp)
                    while isinstance(above, ast.BinOp):
                        self.assertIsInstance(above.op, (ast.Sub, ast.BitAnd, ast.BitOr, ast.BitXor))
                        above = source.parents[above]
                    at_once = called_name(above) in ("sorted", "len") and above.keywords == []
                    self.assertTrue(at_once or (isinstance(above, ast.Compare) and not among_sets))

    def test_walked_things_are_not_changed(self):
        changers = {"append", "clear", "extend", "insert", "pop", "remove", "reverse", "setdefault", "update"}
        for where, source, node in self.each(ast.For):
            walked = node.iter
            if called_name(walked) in ("enumerate", "zip", "reversed"):
                walked = walked.args[0]
            text = ast.unparse(walked)
            for inner in ast.walk(node):
                with self.subTest(where):
                    if isinstance(inner, ast.Call) and isinstance(inner.func, ast.Attribute):
                        self.assertFalse(inner.func.attr in changers and ast.unparse(inner.func.value) == text)
                    if isinstance(inner, ast.Subscript) and isinstance(inner.ctx, ast.Store):
                        self.assertNotEqual(ast.unparse(inner.value), text)

    def test_methods_and_values(self):
        methods, values = set(), set()
        for where, source, node in self.each(ast.ClassDef):
            names = [inner.name for inner in node.body if isinstance(inner, ast.FunctionDef)]
            self.assertEqual(len(names), len(set(names)), where)
            self.assertIs(source.parents[node], source.tree, where)
            methods |= set(names)
        for where, source, node in self.each(ast.Attribute):
            if isinstance(node.ctx, ast.Store):
                values.add(node.attr)
                self.assertIsInstance(node.value, ast.Name, where)
        self.assertEqual(methods & values, set())
        of_python = {name for kind in (str, int, list, dict, set, bytes, tuple) for name in dir(kind)}
        self.assertEqual(values & (VALUES_TO_LEAVE | (of_python - VALUES_ALLOWED)), set())
        self.assertEqual((methods - DUNDERS) & (of_python - METHODS - {"add", "discard"}), set())

    def test_calls(self):
        for where, source, node in self.each(ast.Call):
            with self.subTest(where):
                used = {keyword.arg for keyword in node.keywords}
                self.assertLessEqual(used, KEYWORDS.get(called_name(node), set()))
        for where, source, node in self.each(ast.Name):
            with self.subTest(where):
                if node.id in ("len", "sorted", "set", "range", "zip", "enumerate", "reversed", "any", "all", "sum"):
                    above = source.parents[node]
                    self.assertTrue(isinstance(above, ast.Call) and above.func is node or isinstance(above, ast.keyword))

    def test_errors(self):
        own = {node.name for source in self.sources for node in source.of(ast.ClassDef)}
        for where, source, node in self.each(ast.ExceptHandler):
            with self.subTest(where):
                self.assertIsInstance(node.type, ast.Name)
                self.assertIn(node.type.id, own | ERRORS_TO_TAKE)
        for where, source, node in self.each(ast.Raise):
            with self.subTest(where):
                self.assertIn(called_name(node.exc), own)

    def test_powers_and_annotations(self):
        for where, source, node in self.each(ast.BinOp, ast.AugAssign):
            with self.subTest(where):
                if isinstance(node.op, ast.Pow):
                    self.assertIsInstance(node.right if isinstance(node, ast.BinOp) else None, ast.Constant)
        for where, source, node in self.each(ast.arg):
            self.assertIsNone(node.annotation, where)
        for where, source, node in self.each(ast.FunctionDef):
            self.assertIsNone(node.returns, where)
