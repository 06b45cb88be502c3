"""Holds the package's files against what can be told of LANGUAGE.md without running them."""

import ast
import builtins
import pathlib
import re
import unittest

PACKAGE = pathlib.Path(__file__).resolve().parent.parent / "wallscaffold"
FILES = sorted(PACKAGE.glob("*.py"))

NODES = (
    ast.Module, ast.FunctionDef, ast.ClassDef, ast.arguments, ast.arg, ast.Lambda, ast.ImportFrom, ast.alias,
    ast.Assign, ast.AugAssign, ast.If, ast.While, ast.For, ast.Return, ast.Break, ast.Continue, ast.Pass, ast.Expr,
    ast.Raise, ast.Try, ast.ExceptHandler, ast.Constant, ast.List, ast.Tuple, ast.Dict, ast.Name, ast.Attribute,
    ast.Subscript, ast.Slice, ast.Call, ast.keyword, ast.BinOp, ast.UnaryOp, ast.BoolOp, ast.Compare, ast.IfExp,
    ast.ListComp, ast.comprehension, ast.operator, ast.unaryop, ast.boolop, ast.cmpop, ast.expr_context,
)
OWN_NAMES = set(
    "len range enumerate zip min max sum abs sorted reversed int str bool list tuple dict set frozenset isinstance ord "
    "repr any all divmod Exception ValueError TypeError KeyError IndexError LookupError ZeroDivisionError "
    "ArithmeticError OverflowError RuntimeError NotImplementedError AttributeError StopIteration".split())
OWN_METHODS = set(
    "append clear copy count endswith extend find get index insert isalnum isalpha isdigit islower isspace isupper "
    "items join keys ljust lower lstrip partition pop remove replace reverse rfind rjust rpartition rsplit rstrip "
    "setdefault split splitlines startswith strip update upper values zfill bit_length".split())
WORDS_OUT = re.compile(
    r"\b(type|typing|typing_extensions|enum|Enum|IntEnum|StrEnum|Flag|IntFlag|Generic|Protocol|ABC|ABCMeta|namedtuple"
    r"|NamedTuple|TypedDict|TYPE_CHECKING|abstractmethod)\b|dataclass|overload|contextmanager")
NAMES_OUT = set("register mro elements open input version_info with_traceback add_note format format_map".split())
WALKED = set("zip enumerate reversed range".split())
WALKERS = set("list tuple dict sorted sum any all enumerate zip min max".split())


def parents(tree):
    return {child: node for node in ast.walk(tree) for child in ast.iter_child_nodes(node)}


def bound_names(tree):
    for node in ast.walk(tree):
        if isinstance(node, (ast.FunctionDef, ast.ClassDef)):
            yield node.name
        elif isinstance(node, ast.arg):
            yield node.arg
        elif isinstance(node, ast.Name) and isinstance(node.ctx, ast.Store):
            yield node.id
        elif isinstance(node, ast.alias):
            yield node.name


READ = [(path, path.read_text(encoding="utf-8"), ast.parse(path.read_text(encoding="utf-8"))) for path in FILES]


class Language(unittest.TestCase):
    def test_the_package_holds_plain_files_alone(self):
        self.assertIn("__init__.py", [path.name for path in FILES])
        for path in PACKAGE.iterdir():
            if path.name != "__pycache__":
                self.assertRegex(path.name, r"^[a-z][a-z0-9_]*\.py$|^__init__\.py$")

    def test_signs_words_and_sizes(self):
        for path, text, tree in READ:
            self.assertRegex(text, r"\A[ -~\n]*\Z")
            self.assertIsNone(WORDS_OUT.search(text))
            self.assertLessEqual(len(text.splitlines()), 400)
            self.assertLessEqual(max(len(line) for line in text.splitlines()), 120)
            for node in ast.walk(tree):
                if isinstance(node, ast.FunctionDef):
                    self.assertLessEqual(node.end_lineno - node.lineno + 1, 40, node.name)

    def test_nodes(self):
        for path, text, tree in READ:
            for node in ast.walk(tree):
                self.assertIsInstance(node, NODES, getattr(node, "lineno", 0))
                self.assertNotIsInstance(node, (ast.Div, ast.MatMult, ast.Pow))
                if isinstance(node, ast.Constant):
                    self.assertIn(type(node.value), (int, str, bool, type(None)))
                if isinstance(node, (ast.While, ast.For)):
                    self.assertEqual(node.orelse, [])
                if isinstance(node, ast.Assign):
                    self.assertEqual(len(node.targets), 1)
                    self.assertNotIsInstance(node.targets[0], (ast.Tuple, ast.List))
                if isinstance(node, ast.ListComp):
                    self.assertEqual(len(node.generators), 1)
                    self.assertLessEqual(len(node.generators[0].ifs), 1)
                if isinstance(node, ast.Compare) and any(isinstance(sign, (ast.Is, ast.IsNot)) for sign in node.ops):
                    self.assertIn(getattr(node.comparators[0], "value", 0), (None, True, False))

    def test_functions_and_classes_are_plain(self):
        for path, text, tree in READ:
            for node in ast.walk(tree):
                if isinstance(node, (ast.FunctionDef, ast.ClassDef)):
                    self.assertEqual(node.decorator_list, [])
                if isinstance(node, ast.FunctionDef):
                    self.assertIsNone(node.returns)
                    given = node.args
                    self.assertEqual((given.vararg, given.kwarg, given.kwonlyargs, given.posonlyargs), (None, None, [], []))
                    self.assertTrue(all(argument.annotation is None for argument in given.args))
                if isinstance(node, ast.ClassDef):
                    self.assertIn(node, tree.body)
                    self.assertTrue(all(isinstance(part, ast.FunctionDef) for part in node.body))
                if isinstance(node, ast.Expr) and not isinstance(node.value, ast.Call):
                    self.assertIs(node, tree.body[0])

    def test_the_top_of_a_file(self):
        for path, text, tree in READ:
            names = []
            for node in tree.body:
                self.assertIsInstance(node, (ast.Expr, ast.ImportFrom, ast.FunctionDef, ast.ClassDef, ast.Assign))
                if isinstance(node, ast.ImportFrom):
                    self.assertEqual(node.level, 0)
                    self.assertTrue(node.module.startswith("wallscaffold."))
                    names += [alias.name for alias in node.names]
                    self.assertTrue(all(alias.asname is None for alias in node.names))
                elif isinstance(node, ast.Assign):
                    names.append(node.targets[0].id)
                elif not isinstance(node, ast.Expr):
                    names.append(node.name)
            self.assertEqual(len(names), len(set(names)))
            locals_of = {node.id for node in ast.walk(tree) if isinstance(node, ast.Name)
                         and isinstance(node.ctx, ast.Store)} | {node.arg for node in ast.walk(tree)
                                                                  if isinstance(node, ast.arg)}
            tops = {node.targets[0].id for node in tree.body if isinstance(node, ast.Assign)}
            self.assertEqual((locals_of - tops) & set(names), set())

    def test_no_two_files_draw_from_one_another(self):
        draws = {}
        for path, text, tree in READ:
            draws[path.stem] = {node.module.split(".")[1] for node in tree.body if isinstance(node, ast.ImportFrom)}
        self.assertEqual(draws["__init__"], set())
        while draws:
            free = [name for name in draws if not draws[name] & set(draws)]
            self.assertTrue(free, draws)
            for name in free:
                del draws[name]

    def test_names(self):
        for path, text, tree in READ:
            for name in set(bound_names(tree)) - {"__init__"}:
                self.assertRegex(name, r"^[A-Za-z][A-Za-z0-9_]*$")
                self.assertFalse(hasattr(builtins, name), name)
                self.assertNotIn(name, NAMES_OUT)
            known = set(bound_names(tree)) | OWN_NAMES
            for node in ast.walk(tree):
                if isinstance(node, ast.Name):
                    self.assertIn(node.id, known)

    def test_methods_and_values_of_objects(self):
        methods, values, called = set(), set(), set()
        for path, text, tree in READ:
            above = parents(tree)
            for node in ast.walk(tree):
                if isinstance(node, ast.ClassDef):
                    names = [part.name for part in node.body]
                    self.assertEqual(len(names), len(set(names)))
                    methods |= set(names)
                if isinstance(node, ast.Attribute):
                    call = above[node]
                    is_called = isinstance(call, ast.Call) and call.func is node
                    (called if is_called else values).add(node.attr)
        self.assertEqual(methods & values, set())
        self.assertEqual(called - methods - OWN_METHODS, set())
        for name in (methods | values) - {"__init__"}:
            self.assertFalse(any(hasattr(kind, name) for kind in (int, str, list, dict, set, bytes, tuple)), name)

    def test_what_is_walked_is_walked_on_the_spot(self):
        for path, text, tree in READ:
            above = parents(tree)
            for node in ast.walk(tree):
                if not isinstance(node, ast.Call):
                    continue
                walked = getattr(node.func, "id", "") in WALKED or getattr(node.func, "attr", "") in ("items", "keys", "values")
                if walked:
                    around = above[node]
                    on_the_spot = isinstance(around, (ast.For, ast.comprehension)) and around.iter is node
                    within = isinstance(around, ast.Call) and getattr(around.func, "id", "") in WALKERS
                    self.assertTrue(on_the_spot or within, node.lineno)


if __name__ == "__main__":
    unittest.main()
