"""The package's files keep to the rules of the language, as far as a walk over them can tell."""

import ast
import builtins
import re
import unittest
from pathlib import Path

PACKAGE = Path(__file__).resolve().parent.parent / "hullpoints"

STATEMENTS = (
    ast.Assign, ast.AugAssign, ast.If, ast.While, ast.For, ast.Return, ast.Break, ast.Continue, ast.Pass,
    ast.Raise, ast.Try, ast.Expr, ast.FunctionDef, ast.ClassDef, ast.ImportFrom,
)
EXPRESSIONS = (
    ast.Constant, ast.Name, ast.Attribute, ast.Subscript, ast.Slice, ast.Call, ast.BinOp, ast.UnaryOp,
    ast.BoolOp, ast.Compare, ast.IfExp, ast.List, ast.Tuple, ast.Dict, ast.ListComp, ast.Lambda,
    ast.JoinedStr, ast.FormattedValue,
)
PYTHONS_OWN = (
    "len range enumerate zip min max sum abs sorted reversed int str bool list tuple dict set frozenset"
    " isinstance ord repr any all divmod ValueError Exception KeyError ZeroDivisionError IndexError"
).split()
METHODS = (
    "append clear copy count endswith extend find get index insert items join keys pop remove replace reverse"
    " setdefault split startswith strip update values bit_length"
).split()
DUNDERS = ("__init__", "__eq__", "__repr__", "__str__", "__len__")
WORDS = (
    "type typing typing_extensions enum Enum IntEnum StrEnum Flag IntFlag Generic Protocol ABC ABCMeta namedtuple"
    " NamedTuple TypedDict TYPE_CHECKING abstractmethod"
).split()
PARTS = ("dataclass", "overload", "contextmanager")

WALKED = ("range", "zip", "enumerate", "reversed", "items", "keys", "values")
WALKERS = ("list", "tuple", "dict", "sorted", "sum", "any", "all", "enumerate", "zip")
KEYWORDS = (
    ("sorted", "key"), ("sorted", "reverse"), ("min", "key"), ("min", "default"), ("max", "key"), ("max", "default"),
    ("sum", "start"), ("enumerate", "start"), ("zip", "strict"),
)


def called(node):
    """The name of the function or method that is called, if this is a call."""
    if not isinstance(node, ast.Call):
        return None
    return node.func.id if isinstance(node.func, ast.Name) else node.func.attr


def bound_names(tree):
    names = []
    for node in ast.walk(tree):
        if isinstance(node, ast.Name) and isinstance(node.ctx, ast.Store):
            names.append(node.id)
        elif isinstance(node, (ast.FunctionDef, ast.ClassDef)):
            names.append(node.name)
        elif isinstance(node, ast.arg):
            names.append(node.arg)
        elif isinstance(node, ast.alias):
            names.append(node.asname or node.name)
    return names


class Language(unittest.TestCase):
    def setUp(self):
        self.texts = {path.name: path.read_bytes().decode("ascii") for path in sorted(PACKAGE.glob("*.py"))}
        self.trees = {name: ast.parse(text) for name, text in self.texts.items()}

    def nodes(self):
        """Each node, with the file and line where it stands."""
        found = []
        for name, tree in self.trees.items():
            found.extend([(f"{name}:{getattr(node, 'lineno', '')}", node) for node in ast.walk(tree)])
        return found

    def above(self, node):
        """The node that this one stands straight within."""
        for where, outer in self.nodes():
            if node in list(ast.iter_child_nodes(outer)):
                return outer
        return None

    def test_files(self):
        others = [path.name for path in PACKAGE.iterdir() if path.suffix != ".py" and path.name != "__pycache__"]
        self.assertEqual(others, [])
        self.assertIn("__init__.py", self.texts)
        for name in self.texts:
            self.assertRegex(name, r"^(__init__|[a-z][a-z0-9_]*)\.py$")

    def test_size_and_signs(self):
        for name, text in self.texts.items():
            lines = text.split("\n")
            self.assertLessEqual(len(lines), 401, name)
            for number, line in enumerate(lines, start=1):
                self.assertRegex(line, r"^[ -~]{0,120}$", f"{name}:{number}")
        for where, node in self.nodes():
            if isinstance(node, ast.FunctionDef):
                self.assertLessEqual(node.end_lineno - node.lineno + 1, 40, where)

    def test_words(self):
        for name, text in self.texts.items():
            self.assertEqual([word for word in re.findall(r"\w+", text) if word in WORDS], [], name)
            self.assertEqual([part for part in PARTS if part in text], [], name)

    def test_statements(self):
        for where, node in self.nodes():
            if isinstance(node, ast.stmt):
                self.assertIsInstance(node, STATEMENTS, where)
            if isinstance(node, ast.Assign):
                self.assertEqual(len(node.targets), 1, where)
                self.assertIsInstance(node.targets[0], (ast.Name, ast.Attribute, ast.Subscript), where)
            if isinstance(node, (ast.For, ast.While)):
                self.assertEqual(node.orelse, [], where)
            if isinstance(node, ast.FunctionDef):
                self.assertEqual(node.decorator_list + node.args.kwonlyargs, [], where)
                self.assertEqual((node.args.vararg, node.args.kwarg), (None, None), where)

    def test_expressions(self):
        for where, node in self.nodes():
            self.assertNotIsInstance(node, (ast.Div, ast.MatMult, ast.Is, ast.IsNot), where)
            if isinstance(node, ast.expr):
                self.assertIsInstance(node, EXPRESSIONS, where)
            if isinstance(node, ast.Constant):
                self.assertIsInstance(node.value, (int, str, bool, type(None)), where)
            if isinstance(node, ast.BinOp) and isinstance(node.op, ast.Pow):
                self.assertIsInstance(node.right, ast.Constant, where)
            if isinstance(node, ast.ListComp):
                self.assertEqual(len(node.generators), 1, where)
                self.assertLessEqual(len(node.generators[0].ifs), 1, where)

    def test_imports(self):
        for name, tree in self.trees.items():
            for node in ast.walk(tree):
                if not isinstance(node, ast.ImportFrom):
                    continue
                self.assertIn(node, tree.body)
                self.assertEqual(node.level, 0)
                self.assertTrue(node.module.startswith("hullpoints."), name)
                drawn = self.trees[node.module.split(".")[1] + ".py"]
                defined = [item.name for item in drawn.body if isinstance(item, (ast.FunctionDef, ast.ClassDef))]
                for item in node.names:
                    self.assertIn(item.name, defined)
                    self.assertIsNone(item.asname)
        self.assertFalse([node for node in self.trees["__init__.py"].body if not isinstance(node, ast.Expr)])

    def test_no_files_draw_from_one_another(self):
        drawn = {}
        for name, tree in self.trees.items():
            rows = [node for node in tree.body if isinstance(node, ast.ImportFrom)]
            drawn[name] = [row.module.split(".")[1] + ".py" for row in rows]
        settled = []
        while len(settled) < len(drawn):
            free = [name for name in drawn if name not in settled and set(drawn[name]) <= set(settled)]
            self.assertNotEqual(free, [], "files that draw from one another")
            settled.extend(free)

    def test_walked_at_once(self):
        for where, node in self.nodes():
            if called(node) not in WALKED:
                continue
            above = self.above(node)
            at_once = isinstance(above, (ast.For, ast.comprehension)) and above.iter is node
            taken = called(above) in WALKERS and above.args[0] is node
            alone = called(above) in ("min", "max") and above.args == [node]
            self.assertTrue(at_once or taken or alone, where)

    def test_sets(self):
        for where, node in self.nodes():
            if called(node) == "set":
                above = self.above(node)
                self.assertIn(called(above), ("sorted", "len"), where)
                self.assertEqual(above.keywords, [], where)

    def test_keywords(self):
        for where, node in self.nodes():
            if isinstance(node, ast.Call):
                for keyword in node.keywords:
                    self.assertIn((called(node), keyword.arg), KEYWORDS, where)

    def test_texts(self):
        for where, node in self.nodes():
            if isinstance(node, ast.Constant) and isinstance(node.value, str):
                self.assertNotIn("%", node.value, where)

    def test_locals_are_not_called_like_classes_and_imports(self):
        for name, tree in self.trees.items():
            taken = [item.name for item in tree.body if isinstance(item, ast.ClassDef)]
            for node in tree.body:
                if isinstance(node, ast.ImportFrom):
                    taken.extend([item.name for item in node.names])
            for node in ast.walk(tree):
                if isinstance(node, ast.arg):
                    self.assertNotIn(node.arg, taken, name)
                if isinstance(node, ast.Name) and isinstance(node.ctx, ast.Store):
                    self.assertNotIn(node.id, taken, name)

    def test_tops(self):
        for name, tree in self.trees.items():
            self.assertIsNotNone(ast.get_docstring(tree), name)
            tops = []
            for node in tree.body[1:]:
                self.assertIsInstance(node, (ast.ImportFrom, ast.Assign, ast.FunctionDef, ast.ClassDef))
                if isinstance(node, ast.Assign):
                    ast.literal_eval(node.value)
                    tops.append(node.targets[0].id)
                elif not isinstance(node, ast.ImportFrom):
                    tops.append(node.name)
            self.assertEqual(len(tops), len(set(tops)), name)

    def test_names(self):
        known = PYTHONS_OWN + ["True", "False", "None"]
        for name, tree in self.trees.items():
            bound = bound_names(tree)
            for word in bound:
                if word not in DUNDERS:
                    self.assertRegex(word, r"^[A-Za-z][A-Za-z0-9_]*$", name)
                self.assertNotIn(word, dir(builtins), name)
            for node in ast.walk(tree):
                if isinstance(node, ast.Name):
                    self.assertIn(node.id, bound + known, f"{name}:{node.lineno}")

    def test_methods_and_values(self):
        own = []
        values = []
        for where, node in self.nodes():
            if isinstance(node, ast.ClassDef):
                own.extend([item.name for item in node.body if isinstance(item, ast.FunctionDef)])
            if isinstance(node, ast.Attribute) and isinstance(node.ctx, ast.Store):
                values.append(node.attr)
        self.assertEqual(sorted(set(own) & set(values)), [])
        for where, node in self.nodes():
            if isinstance(node, ast.Attribute):
                self.assertIn(node.attr, own + values + METHODS, where)
        for word in own + values:
            if word not in DUNDERS:
                for kind in (str, int, list, dict, set, bytes, tuple):
                    self.assertFalse(hasattr(kind, word), word)
