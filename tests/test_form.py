"""The form of the package's files, so far as reading them can tell it."""

import ast
import builtins
import pathlib
import re
import unittest

FOLDER = pathlib.Path(__file__).resolve().parent.parent / "trueline"

STATEMENTS = (
    ast.Assign, ast.AugAssign, ast.If, ast.While, ast.For, ast.Return, ast.Break, ast.Continue, ast.Pass,
    ast.Raise, ast.Try, ast.Expr, ast.FunctionDef, ast.ClassDef, ast.ImportFrom,
)
EXPRESSIONS = (
    ast.Constant, ast.Name, ast.Attribute, ast.Subscript, ast.Slice, ast.Call, ast.List, ast.Tuple, ast.Dict,
    ast.Set, ast.BinOp, ast.UnaryOp, ast.BoolOp, ast.Compare, ast.IfExp, ast.ListComp, ast.JoinedStr,
    ast.FormattedValue, ast.Lambda,
)
OWN_NAMES = set(
    "len range enumerate zip min max sum abs sorted reversed int str bool list tuple dict set frozenset isinstance "
    "ord repr any all divmod Exception ValueError TypeError KeyError IndexError LookupError ZeroDivisionError "
    "ArithmeticError OverflowError RuntimeError NotImplementedError AttributeError StopIteration".split()
)
METHODS = set(
    "append clear copy count endswith extend find get index insert isalnum isalpha isdigit islower isspace isupper "
    "items join keys ljust lower lstrip partition pop remove replace reverse rfind rjust rpartition rsplit rstrip "
    "setdefault split splitlines startswith strip update upper values zfill bit_length".split()
)
DUNDER_METHODS = {"__init__", "__eq__", "__repr__", "__str__", "__len__"}
BARRED_WORDS = (
    "type typing typing_extensions enum Enum IntEnum StrEnum Flag IntFlag Generic Protocol ABC ABCMeta namedtuple "
    "NamedTuple TypedDict TYPE_CHECKING abstractmethod"
).split()
BARRED_PARTS = ("dataclass", "overload", "contextmanager")
BARRED_NAMES = set(
    "register mro elements open input version_info with_traceback add_note attrgetter breakpoint builtins compile "
    "copyright credits delattr dir eval exec exit gc getattr globals hasattr help id importlib license locals "
    "methodcaller os quit setattr super type vars sys format format_map".split()
)


def paths():
    return sorted(FOLDER.glob("*.py"))


def docstring(body):
    first = body[0] if body else None
    is_text = isinstance(first, ast.Expr) and isinstance(first.value, ast.Constant)
    return first if is_text and isinstance(first.value.value, str) else None


class Form(unittest.TestCase):
    def setUp(self):
        self.texts = {path.name: path.read_text() for path in paths()}
        self.trees = {name: ast.parse(text) for name, text in self.texts.items()}

    def nodes(self, *kinds):
        for name, tree in self.trees.items():
            for node in ast.walk(tree):
                if isinstance(node, kinds):
                    yield f"{name}:{getattr(node, 'lineno', 0)}", node

    def test_files(self):
        for path in FOLDER.iterdir():
            if path.name != "__pycache__":
                self.assertRegex(path.name, r"^(__init__|__main__|[a-z][a-z0-9_]*)\.py$")
        self.assertIn("__init__.py", self.texts)

    def test_signs_and_sizes(self):
        for name, text in self.texts.items():
            self.assertEqual(re.findall(r"[^ -~\n]", text), [], name)
            rows = text.split("\n")
            self.assertLessEqual(len(rows), 400, name)
            for row in rows:
                self.assertLessEqual(len(row), 120, name)
        for place, node in self.nodes(ast.FunctionDef):
            self.assertLessEqual(node.end_lineno - node.lineno + 1, 40, place)

    def test_barred_words(self):
        for name, text in self.texts.items():
            words = set(re.findall(r"\w+", text))
            self.assertEqual(sorted(words & set(BARRED_WORDS)), [], name)
            for part in BARRED_PARTS:
                self.assertNotIn(part, text, name)

    def test_the_top(self):
        allowed = (ast.ImportFrom, ast.FunctionDef, ast.ClassDef, ast.Assign)
        for name, tree in self.trees.items():
            first = docstring(tree.body)
            bound = []
            for row in tree.body:
                if row is not first:
                    self.assertIsInstance(row, allowed, f"{name}:{row.lineno}")
                bound += [row.name] if isinstance(row, (ast.FunctionDef, ast.ClassDef)) else []
                bound += [target.id for target in row.targets] if isinstance(row, ast.Assign) else []
            self.assertEqual(len(bound), len(set(bound)), name)

    def test_values_of_the_top(self):
        plain = (ast.Constant, ast.Tuple, ast.List, ast.Dict, ast.Name, ast.UnaryOp, ast.USub, ast.Load)
        for name, tree in self.trees.items():
            above = []
            for row in tree.body:
                above += [row.name] if isinstance(row, ast.FunctionDef) else []
                if isinstance(row, ast.Assign):
                    nodes = list(ast.walk(row.value))
                    for node in nodes:
                        self.assertIsInstance(node, plain, f"{name}:{row.lineno}")
                    self.assertLessEqual({node.id for node in nodes if isinstance(node, ast.Name)}, set(above), name)
                    inner = [node for node in nodes[1:] if isinstance(node, (ast.List, ast.Dict))]
                    self.assertEqual(inner, [], f"{name}:{row.lineno}")

    def test_lists_of_the_top_are_only_read(self):
        for name, tree in self.trees.items():
            kept = [row.targets[0].id for row in tree.body
                    if isinstance(row, ast.Assign) and isinstance(row.value, (ast.List, ast.Dict))]
            read = []
            for node in ast.walk(tree):
                read += [node.value] if isinstance(node, ast.Subscript) and isinstance(node.ctx, ast.Load) else []
                read += node.comparators if isinstance(node, ast.Compare) else []
                read += [node.iter] if isinstance(node, (ast.For, ast.comprehension)) else []
            for node in ast.walk(tree):
                if isinstance(node, ast.Name) and node.id in kept and isinstance(node.ctx, ast.Load):
                    self.assertTrue(any(node is one for one in read), f"{name}:{node.lineno}")

    def test_imports(self):
        for place, node in self.nodes(ast.ImportFrom):
            self.assertEqual(node.level, 0, place)
            self.assertTrue(node.module.startswith("trueline."), place)
            source = self.trees[node.module[len("trueline."):] + ".py"]
            defined = [row.name for row in source.body if isinstance(row, (ast.FunctionDef, ast.ClassDef))]
            for row in source.body:
                defined += [target.id for target in row.targets] if isinstance(row, ast.Assign) else []
            for drawn in node.names:
                self.assertIn(drawn.name, defined, place)
                self.assertIsNone(drawn.asname, place)

    def test_statements_and_expressions(self):
        for place, node in self.nodes(ast.stmt):
            self.assertIsInstance(node, STATEMENTS, place)
        for place, node in self.nodes(ast.expr):
            self.assertIsInstance(node, EXPRESSIONS, place)
        for place, node in self.nodes(ast.Expr):
            is_doc = isinstance(node.value, ast.Constant) and isinstance(node.value.value, str)
            self.assertTrue(isinstance(node.value, ast.Call) or is_doc, place)
        for place, node in self.nodes(ast.Assign):
            self.assertEqual(len(node.targets), 1, place)
        for place, node in self.nodes(ast.While, ast.For):
            self.assertEqual(node.orelse, [], place)
        for place, node in self.nodes(ast.Try):
            self.assertEqual(node.finalbody, [], place)
        for place, node in self.nodes(ast.ListComp):
            self.assertEqual(len(node.generators), 1, place)
            self.assertLessEqual(len(node.generators[0].ifs), 1, place)

    def test_values(self):
        for place, node in self.nodes(ast.Constant):
            self.assertIn(node.value.__class__, (int, str, bool, None.__class__), place)
            if isinstance(node.value, str):
                self.assertNotIn("%", node.value, place)
        for place, node in self.nodes(ast.BinOp, ast.AugAssign):
            self.assertNotIsInstance(node.op, (ast.Div, ast.MatMult), place)
            if isinstance(node.op, ast.Pow):
                exponent = node.right if isinstance(node, ast.BinOp) else node.value
                self.assertIsInstance(exponent, ast.Constant, place)
                self.assertIn(exponent.value, range(0, 65), place)
        for place, node in self.nodes(ast.Compare):
            for operator, side in zip(node.ops, node.comparators):
                if isinstance(operator, (ast.Is, ast.IsNot)):
                    self.assertIsInstance(side, ast.Constant, place)
                    self.assertIn(side.value, (None, True, False), place)

    def test_functions(self):
        for place, node in self.nodes(ast.FunctionDef, ast.Lambda):
            rest = node.args
            self.assertEqual((rest.vararg, rest.kwarg, rest.kwonlyargs, rest.posonlyargs), (None, None, [], []), place)
            for argument in rest.args:
                self.assertIsNone(argument.annotation, place)
                self.assertFalse(hasattr(builtins, argument.arg), place)
        for place, node in self.nodes(ast.FunctionDef):
            self.assertEqual(node.decorator_list, [], place)
            self.assertIsNone(node.returns, place)

    def test_no_local_is_called_like_an_import_or_a_class(self):
        for name, tree in self.trees.items():
            taken = {drawn.name for row in tree.body if isinstance(row, ast.ImportFrom) for drawn in row.names}
            taken |= {row.name for row in tree.body if isinstance(row, (ast.ClassDef, ast.FunctionDef))}
            for function in [row for row in ast.walk(tree) if isinstance(row, (ast.FunctionDef, ast.Lambda))]:
                bound = {argument.arg for argument in function.args.args}
                bound |= {node.id for node in ast.walk(function)
                          if isinstance(node, ast.Name) and isinstance(node.ctx, ast.Store)}
                self.assertEqual(sorted(bound & taken), [], f"{name}:{function.lineno}")

    def test_lists_are_walked_at_once(self):
        lazy = {"zip", "enumerate", "reversed", "range"}
        walkers = {"list", "tuple", "dict", "sorted", "sum", "any", "all", "enumerate", "zip", "min", "max"}
        for name, tree in self.trees.items():
            walked = []
            for node in ast.walk(tree):
                walked += [node.iter] if isinstance(node, (ast.For, ast.comprehension)) else []
                if isinstance(node, ast.Call) and isinstance(node.func, ast.Name) and node.func.id in walkers:
                    walked += node.args[:1]
            for node in ast.walk(tree):
                if isinstance(node, ast.Call) and isinstance(node.func, ast.Name) and node.func.id in lazy:
                    self.assertTrue(any(node is one for one in walked), f"{name}:{node.lineno}")

    def test_classes(self):
        for place, node in self.nodes(ast.ClassDef):
            self.assertEqual(node.decorator_list, [], place)
            self.assertEqual(node.keywords, [], place)
            self.assertLessEqual(len(node.bases), 1, place)
            for row in node.body:
                if row is not docstring(node.body):
                    self.assertIsInstance(row, (ast.FunctionDef, ast.Pass), place)

    def test_errors_are_the_programs_own(self):
        own = {node.name for _, node in self.nodes(ast.ClassDef)}
        for place, node in self.nodes(ast.ExceptHandler):
            self.assertIsInstance(node.type, ast.Name, place)
            self.assertIn(node.type.id, own | {"KeyError", "ZeroDivisionError", "StopIteration"}, place)
        for place, node in self.nodes(ast.Raise):
            self.assertIsInstance(node.exc, ast.Call, place)
            self.assertIn(node.exc.func.id, own, place)
            self.assertEqual(node.exc.keywords, [], place)

    def test_values_of_objects(self):
        methods = {row.name for _, node in self.nodes(ast.ClassDef)
                   for row in node.body if isinstance(row, ast.FunctionDef)}
        python = {name for kind in (str, int, list, dict, set, bytes) for name in dir(kind)}
        for place, node in self.nodes(ast.Attribute):
            if isinstance(node.ctx, ast.Store):
                self.assertIsInstance(node.value, ast.Name, place)
                self.assertNotIn(node.attr, methods | python, place)

    def test_texts_with_names(self):
        for place, node in self.nodes(ast.FormattedValue):
            self.assertIsInstance(node.value, ast.Name, place)
            self.assertIsNone(node.format_spec, place)

    def test_sets_are_not_kept(self):
        for name, tree in self.trees.items():
            within = []
            for node in ast.walk(tree):
                if isinstance(node, ast.Call) and isinstance(node.func, ast.Name) and node.func.id in ("len", "sorted"):
                    within += node.args[:1]
            for node in ast.walk(tree):
                self.assertNotIsInstance(node, ast.Set, name)
                if isinstance(node, ast.Call) and isinstance(node.func, ast.Name) and node.func.id == "set":
                    self.assertTrue(any(node is one for one in within), f"{name}:{node.lineno}")

    def test_names(self):
        own = {node.name for _, node in self.nodes(ast.FunctionDef)}
        for place, node in self.nodes(ast.Name):
            self.assertFalse(node.id.startswith("_"), place)
            self.assertNotIn(node.id, BARRED_NAMES, place)
            if hasattr(builtins, node.id):
                self.assertIn(node.id, OWN_NAMES, place)
                self.assertIsInstance(node.ctx, ast.Load, place)
        for place, node in self.nodes(ast.FunctionDef, ast.ClassDef):
            if node.name not in DUNDER_METHODS:
                self.assertFalse(node.name.startswith("_"), place)
        for place, node in self.nodes(ast.Attribute):
            self.assertNotIn(node.attr, BARRED_NAMES, place)
            if node.attr.startswith("_"):
                self.assertEqual(node.attr, "__init__", place)
        for place, node in self.nodes(ast.Call):
            if isinstance(node.func, ast.Attribute) and node.func.attr != "__init__":
                self.assertIn(node.func.attr, METHODS | own, place)


if __name__ == "__main__":
    unittest.main()
