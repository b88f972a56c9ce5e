"""Looks at the package's own files by those rules of LANGUAGE.md that a plain walk can see."""

import ast
import builtins
import re
import unittest
from pathlib import Path

PACKAGE = Path(__file__).resolve().parent.parent / "twotimes"
STATEMENTS = (
    ast.Assign, ast.AugAssign, ast.If, ast.While, ast.For, ast.Return, ast.Break, ast.Continue, ast.Pass, ast.Raise,
    ast.Try, ast.Expr, ast.FunctionDef, ast.ClassDef, ast.ImportFrom,
)
NOT_USED = (
    ast.Starred, ast.NamedExpr, ast.SetComp, ast.DictComp, ast.GeneratorExp, ast.Yield, ast.YieldFrom, ast.Await,
    ast.Div, ast.MatMult,
)
OWN_NAMES = set(
    "len range enumerate zip min max sum abs sorted reversed int str bool list tuple dict set isinstance ord repr"
    " any all divmod Exception ValueError TypeError KeyError IndexError LookupError ZeroDivisionError ArithmeticError"
    " OverflowError RuntimeError NotImplementedError StopIteration".split()
)
OWN_METHODS = set(
    "append clear copy count endswith extend find get index insert isalnum isalpha isdigit islower isspace isupper items"
    " join keys ljust lower lstrip partition pop remove replace reverse rfind rjust rpartition rsplit rstrip setdefault"
    " split splitlines startswith strip update upper values zfill bit_length".split()
)
WALKED = set("zip enumerate reversed range items keys values".split())
WALKING = set("list tuple dict sorted sum any all enumerate zip min max".split())
KEYWORDS = {"sorted": {"key", "reverse"}, "min": {"key", "default"}, "max": {"key", "default"}}
METHODS = ("__init__", "__eq__", "__repr__", "__str__", "__len__")
WORDS = re.compile(
    r"\b(type|typing|typing_extensions|enum|Enum|IntEnum|StrEnum|Flag|IntFlag|Generic|Protocol|ABC|ABCMeta|namedtuple"
    r"|NamedTuple|TypedDict|TYPE_CHECKING|abstractmethod)\b|dataclass|overload|contextmanager"
)


def files():
    return [path for path in sorted(PACKAGE.rglob("*")) if "__pycache__" not in path.parts]


def trees():
    return [(path.name, ast.parse(path.read_text())) for path in files()]


def bound_names(tree):
    names = set()
    for node in ast.walk(tree):
        if isinstance(node, ast.Name) and not isinstance(node.ctx, ast.Load):
            names.add(node.id)
        elif isinstance(node, (ast.FunctionDef, ast.ClassDef)):
            names.add(node.name)
        elif isinstance(node, ast.arg):
            names.add(node.arg)
        elif isinstance(node, ast.alias):
            names.add(node.asname or node.name)
        elif isinstance(node, ast.ExceptHandler) and node.name:
            names.add(node.name)
    return names


def nodes_of(kind):
    return [node for name, tree in trees() for node in ast.walk(tree) if isinstance(node, kind)]


def defined_names(tree):
    names = {node.name for node in tree.body if isinstance(node, (ast.FunctionDef, ast.ClassDef))}
    return names | {target.id for node in tree.body if isinstance(node, ast.Assign) for target in node.targets}


def drawn_from(tree):
    return {node.module.split(".")[-1] + ".py" for node in tree.body if isinstance(node, ast.ImportFrom)}


def called_name(node):
    return node.func.attr if isinstance(node.func, ast.Attribute) else getattr(node.func, "id", None)


def package_methods():
    return {part.name for node in nodes_of(ast.ClassDef) for part in node.body if isinstance(part, ast.FunctionDef)}


class Language(unittest.TestCase):
    def test_files(self):
        self.assertIn(PACKAGE / "__init__.py", files())
        for path in files():
            self.assertRegex(path.name, r"^(__init__|[a-z][a-z0-9_]*)\.py$")

    def test_signs_and_sizes(self):
        for path in files():
            text = path.read_text()
            self.assertRegex(text, r"\A[ -~\n]*\Z", path.name)
            self.assertIsNone(WORDS.search(text), path.name)
            self.assertLessEqual(len(text.splitlines()), 400, path.name)
            self.assertLessEqual(max(map(len, text.splitlines()), default=0), 120, path.name)

    def test_functions(self):
        for name, tree in trees():
            for node in ast.walk(tree):
                if isinstance(node, ast.FunctionDef):
                    where = (name, node.name)
                    self.assertLess(node.end_lineno - node.lineno, 40, where)
                    self.assertEqual(node.decorator_list, [], where)
                    self.assertTrue(node.args.vararg is None and node.args.kwarg is None, where)
                    self.assertEqual(node.args.kwonlyargs, [], where)

    def test_statements_and_expressions(self):
        for name, tree in trees():
            for node in ast.walk(tree):
                where = (name, getattr(node, "lineno", 0))
                self.assertNotIsInstance(node, NOT_USED, where)
                if isinstance(node, ast.stmt):
                    self.assertIsInstance(node, STATEMENTS, where)
                if isinstance(node, ast.Assign):
                    self.assertEqual(len(node.targets), 1, where)
                if isinstance(node, (ast.For, ast.While, ast.Try)):
                    self.assertEqual(getattr(node, "finalbody", []), [], where)
                    self.assertTrue(isinstance(node, ast.Try) or node.orelse == [], where)
                if isinstance(node, ast.Constant):
                    self.assertIsInstance(node.value, (int, str, bool, type(None)), where)

    def test_imports(self):
        for name, tree in trees():
            for node in ast.walk(tree):
                if isinstance(node, ast.ImportFrom):
                    self.assertEqual((node.level, node.module.split(".")[0]), (0, "twotimes"), name)
                    self.assertIn(node, tree.body, name)
                    self.assertNotIn("*", [alias.name for alias in node.names], name)

    def test_tops_hold_plain_values(self):
        for name, tree in trees():
            for number, node in enumerate(tree.body):
                if isinstance(node, ast.Expr):
                    self.assertEqual((number, type(ast.literal_eval(node.value))), (0, str), name)
                elif isinstance(node, ast.Assign):
                    value = ast.literal_eval(node.value)
                    within = value.values() if isinstance(value, dict) else value if isinstance(value, list) else ()
                    self.assertFalse(any(isinstance(thing, (list, dict)) for thing in within), name)
                else:
                    self.assertIsInstance(node, (ast.FunctionDef, ast.ClassDef, ast.ImportFrom), name)

    def test_names_are_drawn_from_the_file_that_defines_them(self):
        tops = dict(trees())
        for name, tree in tops.items():
            defining = [node for node in tree.body if not isinstance(node, (ast.Expr, ast.ImportFrom))]
            self.assertEqual(len(defined_names(tree)), len(defining), name)
            for node in tree.body:
                if isinstance(node, ast.ImportFrom):
                    drawn = {alias.name for alias in node.names}
                    self.assertEqual(drawn - defined_names(tops[node.module.split(".")[-1] + ".py"]), set(), name)

    def test_no_two_files_draw_from_one_another(self):
        drawn = {name: drawn_from(tree) for name, tree in trees()}
        while drawn:
            free = [name for name in drawn if not drawn[name] & set(drawn)]
            self.assertNotEqual(free, [], drawn)
            for name in free:
                del drawn[name]

    # A list or dict of a file's top is read on the spot, or handed on as a copy.
    def test_tops_are_only_read(self):
        for name, tree in trees():
            kept = {node.targets[0].id for node in tree.body
                    if isinstance(node, ast.Assign) and isinstance(node.value, (ast.List, ast.Dict))}
            reads = [node.value for node in ast.walk(tree) if isinstance(node, (ast.Subscript, ast.Attribute))]
            reads += [side for node in ast.walk(tree) if isinstance(node, ast.Compare) for side in node.comparators]
            calls = [node for node in ast.walk(tree) if isinstance(node, ast.Call) and node.args]
            reads += [node.args[0] for node in calls if called_name(node) in ("dict", "list", "len", "sorted")]
            for node in ast.walk(tree):
                if isinstance(node, ast.Name) and node.id in kept and isinstance(node.ctx, ast.Load):
                    self.assertTrue(any(node is read for read in reads), (name, node.lineno))

    def test_errors_are_the_programs_own(self):
        own = {node.name for node in nodes_of(ast.ClassDef)}
        for node in nodes_of(ast.ExceptHandler):
            self.assertIn(getattr(node.type, "id", None), own | {"KeyError", "ZeroDivisionError"}, node.lineno)
        for node in nodes_of(ast.Raise):
            self.assertIn(called_name(node.exc), own, node.lineno)
            self.assertTrue(node.cause is None or isinstance(node.cause, ast.Name), node.lineno)

    def test_texts(self):
        for node in nodes_of(ast.Constant):
            self.assertFalse(isinstance(node.value, str) and "%" in node.value, node.lineno)
        for node in nodes_of(ast.FormattedValue):
            self.assertIsInstance(node.value, ast.Name, node.lineno)
            self.assertIsNone(node.format_spec, node.lineno)

    def test_names(self):
        for name, tree in trees():
            bound = bound_names(tree)
            self.assertEqual(bound & set(dir(builtins)) - set(METHODS), set(), name)
            self.assertEqual([word for word in bound if word.startswith("_") and word not in METHODS], [], name)
            read = set(node.id for node in ast.walk(tree) if isinstance(node, ast.Name))
            self.assertEqual(read - bound - OWN_NAMES, set(), name)

    def test_no_name_is_a_method_and_a_value(self):
        values = {node.attr for node in nodes_of(ast.Attribute) if isinstance(node.ctx, ast.Store)}
        self.assertEqual(values & package_methods(), set())

    def test_methods_are_called_where_they_stand(self):
        nodes = nodes_of((ast.Call, ast.Attribute))
        called = [node.func for node in nodes if isinstance(node, ast.Call) and isinstance(node.func, ast.Attribute)]
        others = [node for node in nodes if isinstance(node, ast.Attribute) and node not in called]
        known = package_methods() | OWN_METHODS
        self.assertEqual({node.attr for node in called} - known, set())
        self.assertEqual({node.attr for node in others} & known, set())

    def test_walked_on_the_spot(self):
        nodes = nodes_of((ast.For, ast.comprehension, ast.Call))
        calls = [node for node in nodes if isinstance(node, ast.Call)]
        walks = [node.iter for node in nodes if not isinstance(node, ast.Call)]
        walks += [node.args[0] for node in calls if called_name(node) in WALKING | {"join"} and node.args]
        for node in calls:
            if called_name(node) in WALKED:
                self.assertTrue(any(node is walk for walk in walks), ast.unparse(node))

    def test_keywords(self):
        for node in nodes_of(ast.Call):
            names = {keyword.arg for keyword in node.keywords}
            self.assertEqual(names - KEYWORDS.get(called_name(node), set()), set(), ast.unparse(node))

    def test_is_stands_beside_none_and_truths(self):
        for node in nodes_of(ast.Compare):
            for sign, side in zip(node.ops, node.comparators):
                if isinstance(sign, (ast.Is, ast.IsNot)):
                    self.assertIsInstance(side, ast.Constant, node.lineno)
                    self.assertIn(side.value, (None, True, False), node.lineno)


if __name__ == "__main__":
    unittest.main()
