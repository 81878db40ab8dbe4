"""What can be seen of the package's files without running them."""

import ast
import builtins
import pathlib
import re
import unittest

PACKAGE = pathlib.Path(__file__).resolve().parent.parent / "textendings"
FILES = sorted(PACKAGE.glob("*.py"))

# Less than LANGUAGE.md allows: what the package has use for. Whoever needs more reads there whether it is allowed.
NODES = (ast.Module, ast.FunctionDef, ast.arguments, ast.arg, ast.Assign, ast.If, ast.While, ast.For, ast.Return,
         ast.Expr, ast.Constant, ast.Name, ast.List, ast.Tuple, ast.BinOp, ast.UnaryOp, ast.BoolOp, ast.Compare,
         ast.Call, ast.keyword, ast.Attribute, ast.Subscript, ast.Slice, ast.ListComp, ast.comprehension, ast.Lambda,
         ast.Add, ast.Sub, ast.USub, ast.And, ast.Or, ast.cmpop, ast.expr_context)
# Of L8 and L25.
OWN_NAMES = ("len", "range", "sorted", "min", "max")
METHODS = ("append", "extend", "index")
# Of L17: words that stand nowhere in a file, in remarks and texts neither.
WORDS = ("type", "typing", "typing_extensions", "enum", "Enum", "IntEnum", "StrEnum", "Flag", "IntFlag", "Generic",
         "Protocol", "ABC", "ABCMeta", "namedtuple", "NamedTuple", "TypedDict", "TYPE_CHECKING", "abstractmethod")


def nodes():
    """Every node of every file, with the file's name."""
    return [(path.name, node) for path in FILES for node in ast.walk(ast.parse(path.read_text(encoding="ascii")))]


class Form(unittest.TestCase):
    def test_the_files_are_there(self):
        names = [path.name for path in FILES]
        self.assertIn("__init__.py", names)
        self.assertIn("endings.py", names)

    def test_nothing_is_imported_printed_or_read(self):
        for path in FILES:
            for node in ast.walk(ast.parse(path.read_text(encoding="ascii"))):
                self.assertNotIsInstance(node, (ast.Import, ast.ImportFrom), path)
                if isinstance(node, ast.Name):
                    self.assertNotIn(node.id, ("print", "input", "open"), path)

    def test_the_language_is_small(self):
        for name, node in nodes():
            with self.subTest(file=name, row=getattr(node, "lineno", 0)):
                self.assertIsInstance(node, NODES)
                if isinstance(node, ast.Constant):
                    self.assertIn(type(node.value), (int, str, bool))
                if isinstance(node, ast.Assign):
                    self.assertEqual([type(target) for target in node.targets], [ast.Name])
                if isinstance(node, (ast.For, ast.While)):
                    self.assertEqual(node.orelse, [])
                if isinstance(node, ast.FunctionDef):
                    self.assertEqual(node.decorator_list, [])

    def test_names(self):
        for name, node in nodes():
            with self.subTest(file=name, row=getattr(node, "lineno", 0)):
                if isinstance(node, ast.Name) and hasattr(builtins, node.id):
                    self.assertIn(node.id, OWN_NAMES)
                    self.assertIsInstance(node.ctx, ast.Load)
                if isinstance(node, (ast.arg, ast.FunctionDef)):
                    self.assertFalse(hasattr(builtins, node.arg if isinstance(node, ast.arg) else node.name))
                if isinstance(node, ast.Attribute):
                    self.assertIn(node.attr, METHODS)

    def test_words_that_stand_nowhere(self):
        for path in FILES:
            text = path.read_text(encoding="ascii")
            self.assertEqual([word for word in re.findall(r"\w+", text) if word in WORDS], [], path)
            self.assertIsNone(re.search("dataclass|overload|contextmanager", text), path)

    def test_nothing_calls_itself(self):
        # What is as long as its input is gone through by loops: a function calls only those above it.
        for path in FILES:
            above = set()
            tree = ast.parse(path.read_text(encoding="ascii"))
            own = {node.name for node in tree.body if isinstance(node, ast.FunctionDef)}
            for node in tree.body:
                if isinstance(node, ast.FunctionDef):
                    used = {inner.id for inner in ast.walk(node) if isinstance(inner, ast.Name)}
                    self.assertLessEqual(used & own, above, node.name)
                    above.add(node.name)

    def test_sizes_and_signs(self):
        for path in FILES:
            rows = path.read_text(encoding="ascii").split("\n")
            self.assertLessEqual(len(rows), 401, path)
            for row in rows:
                self.assertLessEqual(len(row), 120, path)
                self.assertTrue(all(" " <= sign <= "~" for sign in row), row)

    def test_functions_are_short(self):
        for path in FILES:
            for node in ast.walk(ast.parse(path.read_text(encoding="ascii"))):
                if isinstance(node, ast.FunctionDef):
                    self.assertLessEqual(node.end_lineno - node.lineno + 1, 40, node.name)


if __name__ == "__main__":
    unittest.main()
