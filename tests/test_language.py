"""The rules of LANGUAGE.md that the text of a file shows plainly; the others are for the reader."""

import ast
import builtins
import pathlib
import re
import unittest

TOP = pathlib.Path(__file__).resolve().parent.parent / "ablehands"
FILES = sorted(path for path in TOP.rglob("*") if path.is_file() and path.suffix != ".pyc")

OWN = """len range enumerate zip min max sum abs sorted reversed int str bool bytes list tuple dict set frozenset
    isinstance ord repr any all divmod Exception ValueError TypeError KeyError IndexError LookupError
    ZeroDivisionError ArithmeticError OverflowError RuntimeError NotImplementedError AttributeError
    StopIteration object""".split()
WORDS = re.compile(
    r"\b(type|typing|typing_extensions|enum|Enum|IntEnum|StrEnum|Flag|IntFlag|Generic|Protocol|ABC|ABCMeta"
    r"|namedtuple|NamedTuple|TypedDict|TYPE_CHECKING|abstractmethod)\b|dataclass|overload|contextmanager"
)
OUT = (
    ast.With, ast.Match, ast.Global, ast.Nonlocal, ast.Yield, ast.YieldFrom, ast.AsyncFunctionDef, ast.AsyncFor,
    ast.AsyncWith, ast.Await, ast.GeneratorExp, ast.NamedExpr, ast.Div, ast.MatMult, ast.Import,
)


def each():
    for path in FILES:
        text = path.read_text(encoding="utf-8")
        yield path.name, text, ast.parse(text)


class Language(unittest.TestCase):

    def test_files(self):
        self.assertIn(TOP / "__init__.py", FILES)
        for path in FILES:
            self.assertRegex(path.name, r"^([a-z][a-z0-9_]*|__init__|__main__)\.py$")

    def test_signs_words_and_sizes(self):
        for name, text, tree in each():
            with self.subTest(file=name):
                self.assertRegex(text, r"\A[ -~\n]*\Z")
                self.assertIsNone(WORDS.search(text))
                self.assertLessEqual(len(text.splitlines()), 400)
                self.assertLessEqual(max(len(line) for line in text.splitlines()), 120)
                for node in ast.walk(tree):
                    if isinstance(node, ast.FunctionDef):
                        self.assertLessEqual(node.end_lineno - node.lineno + 1, 40, node.name)

    def test_imports(self):
        for name, text, tree in each():
            with self.subTest(file=name):
                for node in ast.walk(tree):
                    if isinstance(node, ast.ImportFrom):
                        self.assertIn(node, tree.body)
                        self.assertEqual(node.level, 0)
                        self.assertTrue(node.module.startswith("ablehands.") or node.module == "__future__")
                        self.assertNotIn("*", [drawn.name for drawn in node.names])

    def test_no_two_files_draw_from_one_another(self):
        drawn = {}
        for name, text, tree in each():
            froms = [node.module for node in ast.walk(tree) if isinstance(node, ast.ImportFrom)]
            drawn[f"ablehands.{name[:-3]}"] = [module for module in froms if module != "__future__"]
        while drawn:
            free = [name for name in drawn if not any(module in drawn for module in drawn[name])]
            self.assertNotEqual(free, [], drawn)
            for name in free:
                del drawn[name]

    def test_each_name_is_drawn_from_the_file_that_defines_it(self):
        defined = {}
        for name, text, tree in each():
            names = [node.name for node in tree.body if isinstance(node, (ast.FunctionDef, ast.ClassDef))]
            names += [to.id for node in tree.body if isinstance(node, ast.Assign) for to in node.targets]
            defined[f"ablehands.{name[:-3]}"] = names
        for name, text, tree in each():
            for node in ast.walk(tree):
                if isinstance(node, ast.ImportFrom) and node.module != "__future__":
                    self.assertLessEqual({one.name for one in node.names}, set(defined[node.module]), name)

    def test_no_local_is_called_like_an_import_or_a_class(self):
        for name, text, tree in each():
            taken = {one.name for node in tree.body if isinstance(node, ast.ImportFrom) for one in node.names}
            taken |= {node.name for node in tree.body if isinstance(node, ast.ClassDef)}
            for node in ast.walk(tree):
                if isinstance(node, ast.Name) and isinstance(node.ctx, ast.Store):
                    self.assertNotIn(node.id, taken, name)
                if isinstance(node, ast.arg):
                    self.assertNotIn(node.arg, taken, name)

    def test_forms(self):
        for name, text, tree in each():
            with self.subTest(file=name):
                for node in ast.walk(tree):
                    self.assertNotIsInstance(node, OUT)
                    if isinstance(node, (ast.FunctionDef, ast.ClassDef)):
                        self.assertEqual(node.decorator_list, [])
                    if isinstance(node, ast.arguments):
                        self.assertFalse(node.vararg or node.kwarg or node.posonlyargs)
                    if isinstance(node, (ast.For, ast.While)):
                        self.assertEqual(node.orelse, [])
                    if isinstance(node, ast.Constant):
                        self.assertNotIsInstance(node.value, (float, complex))
                        self.assertFalse(isinstance(node.value, str) and "%" in node.value)

    def test_names(self):
        for name, text, tree in each():
            with self.subTest(file=name):
                for node in ast.walk(tree):
                    if isinstance(node, ast.Name):
                        self.assertFalse(node.id.startswith("_"), node.id)
                        read = isinstance(node.ctx, ast.Load)
                        self.assertTrue(not hasattr(builtins, node.id) or read and node.id in OWN, node.id)
                    if isinstance(node, ast.arg):
                        self.assertFalse(node.arg.startswith("_") or hasattr(builtins, node.arg), node.arg)

    def test_methods_and_values_of_objects(self):
        methods = set()
        values = set()
        for name, text, tree in each():
            for node in ast.walk(tree):
                if isinstance(node, ast.ClassDef):
                    own = [part.name for part in node.body if isinstance(part, ast.FunctionDef)]
                    self.assertEqual(len(own), len(set(own)), name)
                    methods.update(own)
                if isinstance(node, ast.Attribute) and isinstance(node.ctx, ast.Store):
                    values.add(node.attr)
        self.assertEqual(methods & values, set())
        taken = {name for thing in ("", 0, [], (), {}, set(), b"") for name in dir(thing)}
        self.assertEqual((methods - {"__init__"}) & taken, set())
        self.assertEqual(values & taken, set())


if __name__ == "__main__":
    unittest.main()
