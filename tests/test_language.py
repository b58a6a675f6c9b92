"""The package's files keep to the part of Python that the program is written in, as far as a test can see it."""

import ast
import builtins
import re
import unittest
from pathlib import Path

PACKAGE = Path(__file__).resolve().parent.parent / "windowlight"

STATEMENTS = (ast.Assign, ast.AugAssign, ast.If, ast.While, ast.For, ast.Return, ast.Break, ast.Continue, ast.Pass,
              ast.Raise, ast.Try, ast.Expr, ast.FunctionDef, ast.ClassDef, ast.ImportFrom)
EXPRESSIONS = (ast.Constant, ast.Name, ast.List, ast.Tuple, ast.Dict, ast.BinOp, ast.UnaryOp, ast.BoolOp, ast.Compare,
               ast.IfExp, ast.Call, ast.Attribute, ast.Subscript, ast.Slice, ast.ListComp, ast.Lambda, ast.JoinedStr,
               ast.FormattedValue)
BUILT_IN = set("""len range enumerate zip min max sum abs sorted reversed int str bool list tuple dict set frozenset
    isinstance ord repr any all divmod Exception ValueError TypeError KeyError IndexError LookupError
    ZeroDivisionError ArithmeticError OverflowError RuntimeError NotImplementedError AttributeError
    StopIteration""".split())
METHODS = set("""append clear copy count endswith extend find get index insert isalnum isalpha isdigit islower isspace
    isupper items join keys ljust lower lstrip partition pop remove replace reverse rfind rjust rpartition rsplit
    rstrip setdefault split splitlines startswith strip update upper values zfill bit_length""".split())
NEVER = """type typing typing_extensions enum Enum IntEnum StrEnum Flag IntFlag Generic Protocol ABC ABCMeta namedtuple
    NamedTuple TypedDict TYPE_CHECKING abstractmethod""".split()
NOT_NAMES = set("""register mro elements open input version_info with_traceback add_note format format_map attrgetter
    breakpoint builtins compile copyright credits delattr dir eval exec exit gc getattr globals hasattr help id
    importlib license locals methodcaller os quit setattr super sys vars""".split())
WALKED = {"zip", "enumerate", "reversed", "range"}


def bound_names(tree):
    for node in ast.walk(tree):
        if isinstance(node, ast.arg):
            yield node.arg
        elif isinstance(node, ast.Name) and isinstance(node.ctx, ast.Store):
            yield node.id
        elif isinstance(node, (ast.FunctionDef, ast.ClassDef)):
            yield node.name


class TestLanguage(unittest.TestCase):
    @classmethod
    def setUpClass(cls):
        cls.texts = {path.name: path.read_text("utf-8") for path in PACKAGE.glob("*.py")}
        cls.trees = {name: ast.parse(text) for name, text in cls.texts.items()}

    def nodes(self):
        for name, tree in self.trees.items():
            for node in ast.walk(tree):
                yield f"{name}:{getattr(node, 'lineno', 0)}", node

    def test_files(self):
        kept = {path.name for path in PACKAGE.iterdir()} - {"__pycache__"}
        self.assertEqual(kept, set(self.texts))
        self.assertIn("__init__.py", kept)
        self.assertIn("desk.py", kept)
        for name in kept:
            self.assertRegex(name, r"\A[a-z0-9_]+\.py\Z")
            self.assertNotIn(name[:-3], dir(builtins))

    def test_size_and_signs(self):
        for name, text in self.texts.items():
            self.assertRegex(text, r"\A[ -~\n]*\Z", name)
            self.assertLessEqual(len(text.splitlines()), 400, name)
            self.assertLessEqual(max(len(line) for line in text.splitlines()), 120, name)
            for word in NEVER:
                self.assertIsNone(re.search(rf"\b{word}\b", text), f"{name}: {word}")
            self.assertIsNone(re.search("dataclass|overload|contextmanager", text), name)
        for where, node in self.nodes():
            if isinstance(node, ast.FunctionDef):
                self.assertLessEqual(node.end_lineno - node.lineno + 1, 40, where)

    def test_kinds_of_statements_and_expressions(self):
        for where, node in self.nodes():
            if isinstance(node, ast.stmt):
                self.assertIsInstance(node, STATEMENTS, where)
            if isinstance(node, ast.expr):
                self.assertIsInstance(node, EXPRESSIONS, where)
            if isinstance(node, ast.Constant):
                self.assertIn(type(node.value), (int, str, bool, type(None)), where)
            if isinstance(node, ast.Assign):
                self.assertEqual(len(node.targets), 1, where)
            if isinstance(node, (ast.For, ast.While)):
                self.assertEqual(node.orelse, [], where)
            if isinstance(node, ast.ListComp):
                self.assertEqual(len(node.generators), 1, where)
                self.assertLessEqual(len(node.generators[0].ifs), 1, where)
            if isinstance(node, ast.BinOp):
                self.assertNotIsInstance(node.op, (ast.Div, ast.MatMult, ast.Pow), where)
            if isinstance(node, ast.Expr):
                self.assertIsInstance(node.value, (ast.Call, ast.Constant), where)
            if isinstance(node, ast.Compare):
                for op, side in zip(node.ops, node.comparators):
                    if isinstance(op, (ast.Is, ast.IsNot)):
                        self.assertIsInstance(side, ast.Constant, where)

    def test_functions_and_classes(self):
        for where, node in self.nodes():
            if isinstance(node, (ast.FunctionDef, ast.ClassDef)):
                self.assertEqual(node.decorator_list, [], where)
            if isinstance(node, ast.FunctionDef):
                told = node.args
                self.assertEqual((told.vararg, told.kwarg, told.kwonlyargs, told.posonlyargs), (None, None, [], []))
                self.assertIsNone(node.returns, where)
            if isinstance(node, ast.ClassDef):
                for part in node.body:
                    self.assertIsInstance(part, (ast.FunctionDef, ast.Expr), where)

    def test_imports(self):
        for where, node in self.nodes():
            if isinstance(node, ast.ImportFrom):
                self.assertEqual(node.level, 0, where)
                self.assertRegex(node.module, r"\Awindowlight\.\w+\Z", where)
                made = set(self.top_names(node.module.split(".")[1] + ".py"))
                for alias in node.names:
                    self.assertIsNone(alias.asname, where)
                    self.assertIn(alias.name, made, where)

    def test_no_two_files_draw_from_one_another(self):
        draws = {name[:-3]: {node.module.split(".")[1] for node in tree.body if isinstance(node, ast.ImportFrom)}
                 for name, tree in self.trees.items()}
        while draws:
            free = [name for name, others in draws.items() if not others & set(draws)]
            self.assertTrue(free, draws)
            for name in free:
                del draws[name]

    def top_names(self, name):
        for node in self.trees[name].body:
            if isinstance(node, (ast.FunctionDef, ast.ClassDef)):
                yield node.name
            elif isinstance(node, ast.Assign):
                yield node.targets[0].id

    def test_tops(self):
        for name, tree in self.trees.items():
            for node in tree.body:
                self.assertIsInstance(node, (ast.Expr, ast.ImportFrom, ast.Assign, ast.FunctionDef, ast.ClassDef))
                if isinstance(node, ast.Assign):
                    ast.literal_eval(node.value)
            names = list(self.top_names(name))
            self.assertEqual(len(names), len(set(names)), name)

    def test_names(self):
        known = set(dir(builtins))
        for name, tree in self.trees.items():
            imports = {alias.name for node in tree.body if isinstance(node, ast.ImportFrom) for alias in node.names}
            bound = set(bound_names(tree))
            for word in bound - {"__init__"}:
                self.assertRegex(word, r"\A[A-Za-z][A-Za-z0-9_]*\Z", name)
            self.assertEqual(bound & (known | imports | NOT_NAMES), set(), name)
            for node in ast.walk(tree):
                if isinstance(node, ast.Name) and isinstance(node.ctx, ast.Load):
                    self.assertIn(node.id, bound | imports | BUILT_IN, f"{name}:{node.lineno}")
            local = {word for node in ast.walk(tree) if isinstance(node, ast.FunctionDef)
                     for word in bound_names(ast.Module(node.body + node.args.args, []))}
            self.assertEqual(local & set(self.top_names(name)), set(), name)

    def test_methods_and_walks(self):
        own = {part.name for where, node in self.nodes() if isinstance(node, ast.ClassDef)
               for part in node.body if isinstance(part, ast.FunctionDef)}
        walks = [node.iter for where, node in self.nodes() if isinstance(node, (ast.For, ast.comprehension))]
        walks += [node.args[0] for where, node in self.nodes() if isinstance(node, ast.Call) and node.args
                  and isinstance(node.func, ast.Name) and node.func.id in BUILT_IN]
        for where, node in self.nodes():
            if isinstance(node, ast.Call) and isinstance(node.func, ast.Attribute):
                self.assertIn(node.func.attr, METHODS | own, where)
            if isinstance(node, ast.Call) and isinstance(node.func, ast.Name) and node.func.id in WALKED:
                self.assertIn(node, walks, where)
            if isinstance(node, ast.Attribute):
                self.assertNotIn(node.attr, NOT_NAMES, where)


if __name__ == "__main__":
    unittest.main()
