"""Holds the package's files to the rules of LANGUAGE.md that can be read off a file."""

import ast
import builtins
import pathlib
import re
import unittest

PACKAGE = pathlib.Path(__file__).resolve().parent.parent / "platforms"

STATEMENTS = (
    ast.Assign, ast.AugAssign, ast.If, ast.While, ast.For, ast.Return, ast.Break, ast.Continue, ast.Pass,
    ast.Raise, ast.Try, ast.Expr, ast.FunctionDef, ast.ClassDef, ast.ImportFrom,
)
OUT = (
    ast.SetComp, ast.DictComp, ast.GeneratorExp, ast.NamedExpr, ast.Starred, ast.Div, ast.MatMult,
    ast.Await, ast.Yield, ast.YieldFrom,
)
OWN_NAMES = """len range enumerate zip min max sum abs sorted reversed int str bool list tuple dict set frozenset
isinstance ord repr any all divmod Exception ValueError TypeError KeyError IndexError LookupError ZeroDivisionError
ArithmeticError OverflowError RuntimeError NotImplementedError AttributeError StopIteration""".split()
OWN_METHODS = """append clear copy count endswith extend find get index insert isalnum isalpha isdigit islower isspace
isupper items join keys ljust lower lstrip partition pop remove replace reverse rfind rjust rpartition rsplit rstrip
setdefault split splitlines startswith strip update upper values zfill bit_length""".split()
WORDS_OUT = """type typing typing_extensions enum Enum IntEnum StrEnum Flag IntFlag Generic Protocol ABC ABCMeta
namedtuple NamedTuple TypedDict TYPE_CHECKING abstractmethod""".split()
NAMES_OUT = "register mro elements open input version_info with_traceback add_note format format_map".split()
SPECIAL_METHODS = ("__init__", "__eq__", "__repr__", "__str__", "__len__")


def texts():
    return {path.name: path.read_text(encoding="utf-8") for path in sorted(PACKAGE.glob("*.py"))}


def nodes():
    return [(name, node) for name, text in texts().items() for node in ast.walk(ast.parse(text))]


def bound_names(node):
    if isinstance(node, ast.Name) and isinstance(node.ctx, ast.Store):
        return [node.id]
    if isinstance(node, (ast.FunctionDef, ast.ClassDef)):
        return [node.name]
    if isinstance(node, ast.arg):
        return [node.arg]
    return []


class Form(unittest.TestCase):
    def test_nothing_else_lies_in_the_package(self):
        for path in PACKAGE.iterdir():
            if path.name != "__pycache__":
                self.assertRegex(path.name, r"^([a-z][a-z0-9_]*|__init__)\.py$")

    def test_sizes_and_signs(self):
        for name, text in texts().items():
            self.assertLessEqual(len(text.splitlines()), 400, name)
            self.assertEqual(re.findall(r"[^ -~\n]", text), [], name)
            for line in text.split("\n"):
                self.assertLessEqual(len(line), 120, name)

    def test_words_that_stand_nowhere(self):
        for name, text in texts().items():
            words = re.findall(r"\w+", text)
            self.assertEqual([word for word in words if word in WORDS_OUT], [], name)
            self.assertEqual(re.findall("dataclass|overload|contextmanager", text), [], name)

    def test_statements_and_expressions(self):
        for name, node in nodes():
            place = (name, getattr(node, "lineno", 0))
            if isinstance(node, ast.stmt):
                self.assertIsInstance(node, STATEMENTS, place)
            self.assertNotIsInstance(node, OUT, place)
            if isinstance(node, (ast.For, ast.While)):
                self.assertEqual(node.orelse, [], place)
            if isinstance(node, ast.Assign):
                self.assertEqual(len(node.targets), 1, place)
            if isinstance(node, ast.ListComp):
                self.assertEqual(len(node.generators), 1, place)
                self.assertLessEqual(len(node.generators[0].ifs), 1, place)
            if isinstance(node, ast.Constant):
                self.assertNotIsInstance(node.value, (float, complex, bytes), place)
            if isinstance(node, ast.Compare) and any(isinstance(op, (ast.Is, ast.IsNot)) for op in node.ops):
                self.assertIn(node.comparators[0].value, (None, True, False), place)

    def test_functions_and_classes(self):
        for name, node in nodes():
            if isinstance(node, ast.FunctionDef):
                self.assertLessEqual(node.end_lineno - node.lineno + 1, 40, (name, node.name))
                self.assertEqual(node.decorator_list, [], (name, node.name))
                given = node.args
                self.assertFalse(given.vararg or given.kwarg or given.kwonlyargs, (name, node.name))
            if isinstance(node, ast.ClassDef):
                self.assertLessEqual(len(node.bases), 1, (name, node.name))
                for inner in node.body:
                    self.assertIsInstance(inner, (ast.FunctionDef, ast.Pass), (name, node.name))

    def test_names(self):
        taken = set(dir(builtins))
        for name, node in nodes():
            for bound in bound_names(node):
                if bound not in SPECIAL_METHODS:
                    self.assertRegex(bound, r"^[A-Za-z][A-Za-z0-9_]*$", name)
                self.assertNotIn(bound, taken, name)
                self.assertNotIn(bound, NAMES_OUT, name)
            if isinstance(node, ast.Name) and node.id in taken:
                self.assertIn(node.id, OWN_NAMES, (name, node.lineno))

    def test_methods(self):
        own = {node.name for name, node in nodes() if isinstance(node, ast.FunctionDef)}
        values = {
            node.attr for name, node in nodes() if isinstance(node, ast.Attribute) and isinstance(node.ctx, ast.Store)
        }
        self.assertEqual(own & values, set())
        for name, node in nodes():
            if isinstance(node, ast.Call) and isinstance(node.func, ast.Attribute):
                self.assertIn(node.func.attr, own | set(OWN_METHODS), (name, node.lineno))
            if isinstance(node, ast.Attribute):
                self.assertNotIn(node.attr, NAMES_OUT, (name, node.lineno))

    def test_imports(self):
        drawn = {}
        for name, node in nodes():
            if isinstance(node, ast.ImportFrom):
                self.assertRegex(node.module, r"^platforms\.[a-z_]+$", name)
                self.assertEqual(node.level, 0, name)
                file = node.module.split(".")[1] + ".py"
                drawn.setdefault(name, []).append(file)
                tops = [bound for top in ast.parse(texts()[file]).body for bound in self.bound_at_top(top)]
                for alias in node.names:
                    self.assertIn(alias.name, tops, name)
        for name in drawn:
            self.assertNotIn(name, self.reached(drawn, name))

    def bound_at_top(self, node):
        if isinstance(node, ast.Assign):
            return bound_names(node.targets[0])
        return bound_names(node)

    def reached(self, drawn, name):
        found = []
        waiting = list(drawn.get(name, []))
        while waiting:
            file = waiting.pop()
            if file not in found:
                found.append(file)
                waiting.extend(drawn.get(file, []))
        return found


if __name__ == "__main__":
    unittest.main()
