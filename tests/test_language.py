"""The rules on the package's form that can be read off its files."""

import ast
import builtins
import pathlib
import re
import unittest

PACKAGE = pathlib.Path(__file__).resolve().parent.parent / "eventsieve"
OWN_NAMES = set("""len range enumerate zip min max sum abs sorted reversed int str bool list tuple dict set frozenset
isinstance ord repr any all divmod Exception ValueError TypeError KeyError IndexError LookupError ZeroDivisionError
ArithmeticError OverflowError RuntimeError NotImplementedError AttributeError StopIteration""".split())
WORDS = set("""type typing typing_extensions enum Enum IntEnum StrEnum Flag IntFlag Generic Protocol ABC ABCMeta
namedtuple NamedTuple TypedDict TYPE_CHECKING abstractmethod""".split())
UNUSED = set("""register mro elements open input version_info with_traceback add_note""".split())
METHODS = set("""append clear copy count endswith extend find get index insert isalnum isalpha isdigit islower isspace
isupper items join keys ljust lower lstrip partition pop remove replace reverse rfind rjust rpartition rsplit rstrip
setdefault split splitlines startswith strip update upper values zfill bit_length""".split())
STATEMENTS = (ast.Module, ast.FunctionDef, ast.ClassDef, ast.Assign, ast.AugAssign, ast.If, ast.While, ast.For,
              ast.Return, ast.Break, ast.Continue, ast.Pass, ast.Raise, ast.Try, ast.Expr, ast.ImportFrom)
OTHERS = (ast.Lambda, ast.SetComp, ast.DictComp, ast.GeneratorExp, ast.NamedExpr, ast.Starred, ast.Set, ast.Div)


class Form(unittest.TestCase):
    def setUp(self):
        self.texts = {path: path.read_text(encoding="utf-8") for path in sorted(PACKAGE.glob("*.py"))}
        self.trees = {path: ast.parse(text) for path, text in self.texts.items()}

    def nodes(self, *kinds):
        return [node for tree in self.trees.values() for node in ast.walk(tree) if isinstance(node, kinds)]

    def test_files(self):
        found = [path.name for path in PACKAGE.iterdir() if path.name != "__pycache__"]
        self.assertIn("__init__.py", found)
        for name in found:
            self.assertRegex(name, r"\A(__init__|[a-z][a-z0-9_]*)\.py\Z")

    def test_sizes_and_signs(self):
        for path, text in self.texts.items():
            rows = text.split("\n")
            self.assertLess(len(rows), 400, path)
            for row in rows:
                self.assertRegex(row, r"\A[ -~]{0,120}\Z")
            self.assertEqual(set(re.findall(r"\w+", text)) & WORDS, set(), path)
        for node in self.nodes(ast.FunctionDef):
            self.assertLessEqual(node.end_lineno - node.lineno + 1, 40, node.name)

    def test_statements(self):
        for node in self.nodes(ast.stmt):
            self.assertIsInstance(node, STATEMENTS, ast.dump(node))
        self.assertEqual(self.nodes(*OTHERS), [])
        for node in self.nodes(ast.Assign):
            self.assertEqual(len(node.targets), 1)
        for node in self.nodes(ast.For, ast.While):
            self.assertEqual(node.orelse, [])
        for node in self.nodes(ast.Constant):
            self.assertNotIsInstance(node.value, (float, bytes, complex))

    def test_imports(self):
        for node in self.nodes(ast.ImportFrom):
            self.assertTrue(node.module.startswith("eventsieve."), node.module)
            source = self.trees[PACKAGE / (node.module.split(".")[1] + ".py")]
            defined = [part.name for part in source.body if isinstance(part, (ast.FunctionDef, ast.ClassDef))]
            defined += [part.targets[0].id for part in source.body if isinstance(part, ast.Assign)]
            for name in node.names:
                self.assertIn(name.name, defined)

    def test_names(self):
        for node in self.nodes(ast.Name):
            self.assertNotIn(node.id, UNUSED)
            if hasattr(builtins, node.id):
                self.assertIn(node.id, OWN_NAMES)
                self.assertIsInstance(node.ctx, ast.Load)
        for node in self.nodes(ast.arg):
            self.assertFalse(hasattr(builtins, node.arg), node.arg)

    def test_methods_and_values(self):
        methods = {part.name for node in self.nodes(ast.ClassDef) for part in node.body
                   if isinstance(part, ast.FunctionDef)}
        values = {node.attr for node in self.nodes(ast.Attribute) if isinstance(node.ctx, ast.Store)}
        self.assertEqual(methods & values, set())
        taken = {name for plain in ("", 0, [], {}, set(), b"", ()) for name in dir(plain)}
        self.assertEqual((methods - {"__init__"}) & taken, set())
        self.assertEqual(values & (taken - {"count", "index"}), set())
        for node in self.nodes(ast.Attribute):
            self.assertIn(node.attr, methods | values | METHODS)


if __name__ == "__main__":
    unittest.main()
