"""The form of the package's files, as far as it can be seen mechanically; L1 to L28 are the rules' numbers."""

import ast
import builtins
import pathlib
import re
import unittest

PACKAGE = pathlib.Path(__file__).resolve().parent.parent / "boardfence"
FILES = sorted(path for path in PACKAGE.rglob("*") if "__pycache__" not in path.parts)

# L8
NAMES = set("""len range enumerate zip min max sum abs sorted reversed int str bool list tuple dict set frozenset
isinstance ord repr any all divmod Exception ValueError TypeError KeyError IndexError LookupError ZeroDivisionError
ArithmeticError OverflowError RuntimeError NotImplementedError AttributeError StopIteration""".split())
# L25
METHODS = set("""append clear copy count endswith extend find get index insert isalnum isalpha isdigit islower isspace
isupper items join keys ljust lower lstrip partition pop remove replace reverse rfind rjust rpartition rsplit rstrip
setdefault split splitlines startswith strip update upper values zfill bit_length""".split())
# L17
WORDS = re.compile(r"\b(type|typing|typing_extensions|enum|Enum|IntEnum|StrEnum|Flag|IntFlag|Generic|Protocol|ABC"
                   r"|ABCMeta|namedtuple|NamedTuple|TypedDict|TYPE_CHECKING|abstractmethod)\b"
                   r"|dataclass|overload|contextmanager")
# L4, L6, L7
KINDS_LEFT_OUT = (ast.With, ast.Match, ast.Delete, ast.Global, ast.Nonlocal, ast.Assert, ast.Yield, ast.YieldFrom,
                  ast.AsyncFunctionDef, ast.Await, ast.Div, ast.SetComp, ast.DictComp, ast.GeneratorExp,
                  ast.NamedExpr, ast.Starred, ast.Import)


def place(file, node):
    return f"{file}, line {getattr(node, 'lineno', 0)}"


class Form(unittest.TestCase):
    def each(self):
        for path in FILES:
            text = path.read_text(encoding="utf-8")
            yield path.name, text, ast.parse(text)

    def test_files(self):
        self.assertIn(PACKAGE / "__init__.py", FILES)
        for path in FILES:
            self.assertRegex(path.name, r"\A[a-z0-9_]+\.py\Z")

    def test_size_and_signs(self):
        for file, text, tree in self.each():
            self.assertRegex(text, r"\A[ -~\n]*\Z", file)
            self.assertIsNone(WORDS.search(text), file)
            lines = text.split("\n")
            self.assertLessEqual(len(lines), 400, file)
            self.assertLessEqual(max(map(len, lines)), 120, file)
            for node in ast.walk(tree):
                if isinstance(node, ast.FunctionDef):
                    self.assertLessEqual(node.end_lineno - node.lineno + 1, 40, (file, node.name))

    def test_statements_and_expressions(self):
        for file, text, tree in self.each():
            for node in ast.walk(tree):
                self.assertNotIsInstance(node, KINDS_LEFT_OUT, place(file, node))
                if isinstance(node, ast.Constant):
                    self.assertNotIsInstance(node.value, (float, bytes, complex), place(file, node))
                if isinstance(node, ast.Assign):
                    self.assertEqual(len(node.targets), 1, place(file, node))
                if isinstance(node, (ast.For, ast.While)):
                    self.assertEqual(node.orelse, [], place(file, node))
                if isinstance(node, ast.FunctionDef):
                    odd = (node.decorator_list, node.args.vararg, node.args.kwarg)
                    self.assertEqual(odd, ([], None, None), place(file, node))

    def test_imports(self):
        for file, text, tree in self.each():
            for node in ast.walk(tree):
                if isinstance(node, ast.ImportFrom):
                    self.assertIn(node, tree.body, place(file, node))
                    self.assertEqual(node.level, 0, place(file, node))
                    self.assertTrue(node.module.startswith("boardfence."), place(file, node))

    def test_names(self):
        for file, text, tree in self.each():
            for node in ast.walk(tree):
                bound = []
                if isinstance(node, ast.Name) and isinstance(node.ctx, ast.Store):
                    bound = [node.id]
                elif isinstance(node, (ast.FunctionDef, ast.ClassDef)):
                    bound = [node.name]
                elif isinstance(node, ast.arg):
                    bound = [node.arg]
                for name in bound:
                    self.assertNotIn(name, dir(builtins), place(file, node))
                    self.assertTrue(name[0] != "_" or name == "__init__", place(file, node))
                if isinstance(node, ast.Name) and node.id in dir(builtins):
                    self.assertIn(node.id, NAMES, place(file, node))

    def test_methods(self):
        own = {node.name for file, text, tree in self.each() for node in ast.walk(tree)
               if isinstance(node, ast.FunctionDef)}
        for file, text, tree in self.each():
            for node in ast.walk(tree):
                if isinstance(node, ast.Call) and isinstance(node.func, ast.Attribute):
                    self.assertIn(node.func.attr, METHODS | own, place(file, node))


if __name__ == "__main__":
    unittest.main()
