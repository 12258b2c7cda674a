"""The part of Python that the package keeps to: those of its rules that can be seen by walking the code."""

import ast
import pathlib
import re
import unittest

PACKAGE = pathlib.Path(__file__).resolve().parent.parent / "nearmany"
OWN_NAMES = set(
    "len range enumerate zip min max sum abs sorted reversed int str bool list tuple dict set frozenset isinstance "
    "ord repr any all divmod Exception ValueError TypeError KeyError IndexError LookupError ZeroDivisionError "
    "ArithmeticError OverflowError RuntimeError NotImplementedError AttributeError StopIteration".split()
)
PYTHON_NAMES = set(dir(__builtins__) if not isinstance(__builtins__, dict) else __builtins__)
METHODS = set(
    "append clear copy count endswith extend find get index insert isalnum isalpha isdigit islower isspace isupper "
    "items join keys ljust lower lstrip partition pop remove replace reverse rfind rjust rpartition rsplit rstrip "
    "setdefault split splitlines startswith strip update upper values zfill bit_length".split()
)
TAKEN = set().union(*(dir(kind) for kind in (str, int, list, dict, set, frozenset, bytes, tuple)))
NOWHERE = set("register mro elements open input version_info with_traceback add_note format format_map args".split())
NOT_AS_NAMES = set(
    "attrgetter breakpoint builtins compile copyright credits delattr dir eval exec exit gc getattr globals hasattr "
    "help id importlib license locals methodcaller os quit setattr super type vars sys".split()
)
NO_WORDS = re.compile(
    r"\b(type|typing|typing_extensions|enum|Enum|IntEnum|StrEnum|Flag|IntFlag|Generic|Protocol|ABC|ABCMeta|namedtuple"
    r"|NamedTuple|TypedDict|TYPE_CHECKING|abstractmethod)\b|dataclass|overload|contextmanager"
)
NODES = (
    ast.Module, ast.ImportFrom, ast.alias, ast.FunctionDef, ast.ClassDef, ast.arguments, ast.arg, ast.Lambda,
    ast.Assign, ast.AugAssign, ast.If, ast.While, ast.For, ast.Return, ast.Break, ast.Continue, ast.Pass, ast.Raise,
    ast.Try, ast.ExceptHandler, ast.Expr, ast.Constant, ast.List, ast.Tuple, ast.Dict, ast.BinOp, ast.UnaryOp,
    ast.BoolOp, ast.Compare, ast.IfExp, ast.Call, ast.Attribute, ast.Subscript, ast.Slice, ast.ListComp,
    ast.comprehension, ast.Name, ast.keyword, ast.expr_context, ast.operator, ast.unaryop, ast.boolop, ast.cmpop,
)
NO_NODES = (ast.Div, ast.MatMult)


def files():
    return sorted(PACKAGE.glob("*.py"))


def trees():
    return [(path.name, ast.parse(path.read_text())) for path in files()]


def is_plain_value(node):
    if isinstance(node, (ast.List, ast.Tuple)):
        return all(is_plain_value(each) for each in node.elts)
    if isinstance(node, ast.Dict):
        return all(is_plain_value(each) for each in node.keys + node.values)
    return isinstance(node, (ast.Constant, ast.Name))


def bound_names(node):
    if isinstance(node, (ast.FunctionDef, ast.ClassDef)):
        return [node.name]
    if isinstance(node, ast.Assign):
        return [target.id for target in node.targets]
    if isinstance(node, ast.ImportFrom):
        return [alias.name for alias in node.names]
    return []


class Language(unittest.TestCase):
    def walk(self, *kinds):
        for name, tree in trees():
            for node in ast.walk(tree):
                if isinstance(node, kinds):
                    yield f"{name}:{getattr(node, 'lineno', 0)}", node

    def test_files(self):
        names = [path.name for path in PACKAGE.iterdir() if path.name != "__pycache__"]
        self.assertIn("__init__.py", names)
        for name in names:
            self.assertRegex(name, r"^([a-z][a-z0-9_]*|__init__|__main__)\.py$")
            self.assertNotIn(name[:-3], PYTHON_NAMES | NOWHERE | NOT_AS_NAMES)

    def test_signs_words_and_sizes(self):
        for path in files():
            text = path.read_bytes().decode("ascii")
            self.assertRegex(text, r"\A[ -~\n]*\Z", path.name)
            self.assertIsNone(NO_WORDS.search(text), path.name)
            self.assertLessEqual(len(text.splitlines()), 400, path.name)
            self.assertLessEqual(max([len(row) for row in text.splitlines()]), 120, path.name)
        for place, node in self.walk(ast.FunctionDef):
            self.assertLessEqual(node.end_lineno - node.lineno + 1, 40, place)

    def test_statements_and_expressions(self):
        for place, node in self.walk(ast.AST):
            self.assertIsInstance(node, NODES, place)
            self.assertNotIsInstance(node, NO_NODES, place)

    def test_plain_forms(self):
        for place, node in self.walk(ast.Assign):
            self.assertEqual(len(node.targets), 1, place)
            self.assertNotIsInstance(node.targets[0], (ast.Tuple, ast.List), place)
        for place, node in self.walk(ast.FunctionDef, ast.Lambda):
            extra = [node.args.vararg, node.args.kwarg, *node.args.kwonlyargs, *node.args.posonlyargs]
            self.assertEqual([each for each in extra if each is not None], [], place)
        for place, node in self.walk(ast.FunctionDef, ast.ClassDef):
            self.assertEqual(node.decorator_list, [], place)
        for place, node in self.walk(ast.For, ast.While):
            self.assertEqual(node.orelse, [], place)
        for place, node in self.walk(ast.ListComp):
            self.assertEqual(len(node.generators), 1, place)
            self.assertLessEqual(len(node.generators[0].ifs), 1, place)
        for place, node in self.walk(ast.Constant):
            self.assertNotIsInstance(node.value, (float, bytes, complex), place)
            self.assertIsNot(node.value, ..., place)
            self.assertNotIn("%", str(node.value), place)
        for place, node in self.walk(ast.BinOp):
            self.assertNotIsInstance(node.op, ast.Pow, place)
        for place, node in self.walk(ast.Compare):
            for op, right in zip(node.ops, node.comparators):
                if isinstance(op, (ast.Is, ast.IsNot)):
                    self.assertIsInstance(right, ast.Constant, place)

    def test_the_top_of_a_module(self):
        for name, tree in trees():
            docstring, rows = tree.body[0], tree.body[1:]
            self.assertIsInstance(docstring.value.value, str, name)
            for node in rows:
                self.assertIsInstance(node, (ast.ImportFrom, ast.FunctionDef, ast.ClassDef, ast.Assign), name)
                if isinstance(node, ast.Assign):
                    self.assertTrue(is_plain_value(node.value), f"{name}:{node.lineno}")
            bound = [each for node in rows for each in bound_names(node)]
            self.assertEqual(len(bound), len(set(bound)), name)

    def test_a_call_by_itself_is_the_only_bare_expression(self):
        for name, tree in trees():
            for node in ast.walk(ast.Module(body=tree.body[1:], type_ignores=[])):
                if isinstance(node, ast.Expr):
                    self.assertIsInstance(node.value, ast.Call, f"{name}:{node.lineno}")

    def test_classes(self):
        for place, node in self.walk(ast.ClassDef):
            methods = [each.name for each in node.body if isinstance(each, ast.FunctionDef)]
            self.assertEqual(len(methods), len(node.body), place)
            self.assertEqual(len(methods), len(set(methods)), place)
            self.assertLessEqual(len(node.bases), 1, place)

    def test_imports(self):
        defined = {f"nearmany.{name[:-3]}": [b for node in tree.body for b in bound_names(node)
                                             if not isinstance(node, ast.ImportFrom)] for name, tree in trees()}
        drawn = {}
        for name, tree in trees():
            rows = [node for node in ast.walk(tree) if isinstance(node, ast.ImportFrom)]
            drawn[f"nearmany.{name[:-3]}"] = [node.module for node in rows]
            for node in rows:
                self.assertEqual(node.level, 0)
                self.assertIn(node, tree.body)
                for alias in node.names:
                    self.assertIsNone(alias.asname)
                    self.assertIn(alias.name, defined[node.module])
                    uses = [each for each in ast.walk(tree) if isinstance(each, ast.Name) and each.id == alias.name]
                    self.assertTrue(uses, f"{name} does not use {alias.name}")
        while drawn:
            free = [name for name in drawn if not set(drawn[name]) & set(drawn)]
            self.assertTrue(free, "files draw from one another")
            for name in free:
                drawn.pop(name)

    def test_names(self):
        for name, tree in trees():
            top = {each for node in tree.body for each in bound_names(node)}
            for node in ast.walk(tree):
                if isinstance(node, ast.Name):
                    self.assertRegex(node.id, r"^[A-Za-z][A-Za-z0-9_]*$")
                    self.assertNotIn(node.id, NOWHERE | NOT_AS_NAMES, f"{name}:{node.lineno}")
                    if node.id in PYTHON_NAMES:
                        self.assertIn(node.id, OWN_NAMES, f"{name}:{node.lineno}")
                        self.assertIsInstance(node.ctx, ast.Load, f"{name}:{node.lineno}")
                    if isinstance(node.ctx, ast.Store) and node.id in top:
                        self.assertEqual(node.col_offset, 0, f"{name}:{node.lineno}")
                if isinstance(node, ast.arg):
                    self.assertNotIn(node.arg, PYTHON_NAMES | top | NOWHERE | NOT_AS_NAMES, f"{name}:{node.lineno}")
                    self.assertIsNone(node.annotation, f"{name}:{node.lineno}")

    def test_methods_and_values(self):
        methods = {node.name for place, tree in self.walk(ast.ClassDef) for node in tree.body}
        values = {node.attr for place, node in self.walk(ast.Attribute) if isinstance(node.ctx, ast.Store)}
        self.assertEqual(methods & values, set())
        self.assertEqual((methods - {"__init__"}) & (TAKEN | NOWHERE), set())
        self.assertEqual(values & (TAKEN | NOWHERE), set())
        for place, node in self.walk(ast.Attribute):
            self.assertIn(node.attr, methods | values | METHODS, place)
            if isinstance(node.ctx, ast.Store):
                self.assertIsInstance(node.value, ast.Name, place)


if __name__ == "__main__":
    unittest.main()
