"""The rules on the package's form that can be read off its files; L1 to L28 are their numbers."""

import ast
import builtins
import io
import pathlib
import re
import tokenize
import unittest

PACKAGE = pathlib.Path(__file__).resolve().parent.parent / "eventsieve"
OWN_NAMES = set("""len range enumerate zip min max sum abs sorted reversed int str bool list tuple dict set frozenset
isinstance ord repr any all divmod Exception ValueError TypeError KeyError IndexError LookupError ZeroDivisionError
ArithmeticError OverflowError RuntimeError NotImplementedError AttributeError StopIteration""".split())
WORDS = set("""type typing typing_extensions enum Enum IntEnum StrEnum Flag IntFlag Generic Protocol ABC ABCMeta
namedtuple NamedTuple TypedDict TYPE_CHECKING abstractmethod""".split())
UNUSED = set("""register mro elements open input version_info with_traceback add_note""".split())
NOT_AS_NAMES = set("""attrgetter breakpoint builtins compile copyright credits delattr dir eval exec exit gc getattr
globals hasattr help id importlib license locals methodcaller os quit setattr super type vars sys chr print""".split())
NOT_AS_VALUES = set("""items keys values pop update append clear extend insert remove reverse setdefault sort args encode
format""".split())
FILES_NOT = set("""site conftest sitecustomize usercustomize test tests testing""".split())
AT_ONCE = set("""zip enumerate reversed range""".split())
WALKERS = set("""list tuple dict sorted sum any all enumerate zip min max""".split())
KEYWORDS = {"sorted": {"key", "reverse"}, "min": {"key", "default"}, "max": {"key", "default"}, "sum": {"start"},
            "enumerate": {"start"}, "zip": {"strict"}}
CHANGES = set("""add discard append clear extend insert pop remove reverse setdefault update""".split())
METHODS = set("""append clear copy count endswith extend find get index insert isalnum isalpha isdigit islower isspace
isupper items join keys ljust lower lstrip partition pop remove replace reverse rfind rjust rpartition rsplit rstrip
setdefault split splitlines startswith strip update upper values zfill bit_length""".split())
STATEMENTS = (ast.Module, ast.FunctionDef, ast.ClassDef, ast.Assign, ast.AugAssign, ast.If, ast.While, ast.For,
              ast.Return, ast.Break, ast.Continue, ast.Pass, ast.Raise, ast.Try, ast.Expr, ast.ImportFrom)
OTHERS = (ast.Lambda, ast.SetComp, ast.DictComp, ast.GeneratorExp, ast.NamedExpr, ast.Starred, ast.Set, ast.Div)


class Trees(unittest.TestCase):
    def setUp(self):
        self.texts = {path: path.read_text(encoding="utf-8") for path in sorted(PACKAGE.glob("*.py"))}
        self.trees = {path: ast.parse(text) for path, text in self.texts.items()}
        self.parents = {part: node for node in self.nodes(ast.AST) for part in ast.iter_child_nodes(node)}

    def nodes(self, *kinds):
        return [node for tree in self.trees.values() for node in ast.walk(tree) if isinstance(node, kinds)]

    def tops(self, *kinds):
        return [(path, node) for path, tree in self.trees.items() for node in tree.body if isinstance(node, kinds)]

    def is_called(self, node):
        return isinstance(self.parents[node], ast.Call) and self.parents[node].func is node


class Form(Trees):
    def test_files(self):
        found = [path.name for path in PACKAGE.iterdir() if path.name != "__pycache__"]
        self.assertIn("__init__.py", found)
        for name in found:
            self.assertRegex(name, r"\A(__init__|[a-z][a-z0-9_]*)\.py\Z")

    def test_sizes_and_signs(self):
        for path, text in self.texts.items():
            rows = text.split("\n")
            self.assertLess(len(rows), 400, path)
            for row in rows:
                self.assertRegex(row, r"\A[ -~]{0,120}\Z")
            self.assertEqual(set(re.findall(r"\w+", text)) & WORDS, set(), path)
        for node in self.nodes(ast.FunctionDef):
            self.assertLessEqual(node.end_lineno - node.lineno + 1, 40, node.name)

    def test_statements(self):
        for node in self.nodes(ast.stmt):
            self.assertIsInstance(node, STATEMENTS, ast.dump(node))
        self.assertEqual(self.nodes(*OTHERS), [])
        for node in self.nodes(ast.Assign):
            self.assertEqual(len(node.targets), 1)
        for node in self.nodes(ast.For, ast.While):
            self.assertEqual(node.orelse, [])
        for node in self.nodes(ast.Constant):
            self.assertNotIsInstance(node.value, (float, bytes, complex))

    def test_imports(self):
        for node in self.nodes(ast.ImportFrom):
            self.assertTrue(node.module.startswith("eventsieve."), node.module)
            source = self.trees[PACKAGE / (node.module.split(".")[1] + ".py")]
            defined = [part.name for part in source.body if isinstance(part, (ast.FunctionDef, ast.ClassDef))]
            defined += [part.targets[0].id for part in source.body if isinstance(part, ast.Assign)]
            for name in node.names:
                self.assertIn(name.name, defined)

    def test_names(self):
        for node in self.nodes(ast.Name):
            self.assertNotIn(node.id, UNUSED)
            if hasattr(builtins, node.id):
                self.assertIn(node.id, OWN_NAMES)
                self.assertIsInstance(node.ctx, ast.Load)
        for node in self.nodes(ast.arg):
            self.assertFalse(hasattr(builtins, node.arg), node.arg)

    def test_methods_and_values(self):
        methods = {part.name for node in self.nodes(ast.ClassDef) for part in node.body
                   if isinstance(part, ast.FunctionDef)}
        values = {node.attr for node in self.nodes(ast.Attribute) if isinstance(node.ctx, ast.Store)}
        self.assertEqual(methods & values, set())
        taken = {name for plain in ("", 0, [], {}, set(), b"", ()) for name in dir(plain)}
        self.assertEqual((methods - {"__init__"}) & taken, set())
        self.assertEqual(values & (taken - {"count", "index"}), set())
        for node in self.nodes(ast.Attribute):
            self.assertIn(node.attr, methods | values | METHODS)


class Rules(Trees):
    def plain(self, node):
        """A value that may stand at a file's top (L3, L15): no list or dict within another."""
        if isinstance(node, (ast.List, ast.Tuple, ast.Dict)):
            parts = [part for part in ast.iter_child_nodes(node) if isinstance(part, ast.expr)]
            return all(self.plain(part) and not isinstance(part, (ast.List, ast.Dict)) for part in parts)
        if isinstance(node, ast.UnaryOp):
            return isinstance(node.operand, ast.Constant)
        return isinstance(node, ast.Constant)

    def test_l1_and_l14_files(self):
        for path, text in self.texts.items():
            self.assertEqual(path.name, path.name.lower())
            self.assertNotIn(path.stem, FILES_NOT | set(dir(builtins)) | WORDS)
            self.assertFalse(path.stem.startswith("test_"))
            self.assertTrue(ast.get_docstring(self.trees[path]), path)
            self.assertTrue(text.isascii())
        self.assertTrue(all(path.suffix == ".py" or path.name == "__pycache__" for path in PACKAGE.iterdir()))

    def test_l2_l3_and_l15_tops(self):
        for path, tree in self.trees.items():
            names = []
            for place, node in enumerate(tree.body):
                if isinstance(node, ast.Assign):
                    self.assertTrue(self.plain(node.value), ast.dump(node))
                    names.append(node.targets[0].id)
                elif isinstance(node, ast.ImportFrom):
                    self.assertIsInstance(tree.body[place - 1], (ast.Expr, ast.ImportFrom))
                    self.assertEqual(node.level, 0)
                    self.assertEqual([part.asname for part in node.names], [None] * len(node.names))
                    names += [part.name for part in node.names]
                elif isinstance(node, (ast.FunctionDef, ast.ClassDef)):
                    names.append(node.name)
                else:
                    self.assertEqual((place, type(node)), (0, ast.Expr))
            self.assertEqual(len(names), len(set(names)), path)
        self.assertEqual(len(self.nodes(ast.ImportFrom)), len(self.tops(ast.ImportFrom)))
        self.assertEqual(len(self.nodes(ast.ClassDef)), len(self.tops(ast.ClassDef)))

    def test_l4_l5_and_l21_functions_and_classes(self):
        for node in self.nodes(ast.FunctionDef, ast.Lambda):
            parts = node.args
            self.assertEqual((parts.vararg, parts.kwarg, parts.kwonlyargs, parts.posonlyargs), (None, None, [], []))
            self.assertTrue(all(isinstance(given, ast.Constant) for given in parts.defaults))
            self.assertEqual([part.annotation for part in parts.args], [None] * len(parts.args))
        for node in self.nodes(ast.FunctionDef):
            self.assertEqual((node.decorator_list, node.returns), ([], None))
        for node in self.nodes(ast.ClassDef):
            self.assertEqual((node.decorator_list, node.keywords), ([], []))
            self.assertLessEqual(len(node.bases), 1)
            for part in node.body:
                self.assertIsInstance(part, (ast.FunctionDef, ast.Pass))
            methods = [part.name for part in node.body if isinstance(part, ast.FunctionDef)]
            self.assertEqual(len(methods), len(set(methods)))

    def test_l6_and_l7_statements_and_values(self):
        for node in self.nodes(ast.Expr):
            docstring = isinstance(node.value, ast.Constant) and isinstance(node.value.value, str)
            self.assertTrue(docstring or isinstance(node.value, ast.Call), ast.dump(node))
        for node in self.nodes(ast.Try):
            self.assertEqual(node.finalbody, [])
        for node in self.nodes(ast.ListComp):
            self.assertEqual(len(node.generators), 1)
            self.assertLessEqual(len(node.generators[0].ifs), 1)
        for node in self.nodes(ast.FormattedValue):
            self.assertIsInstance(node.value, ast.Name)
            self.assertIn(node.conversion, (-1, ord("r")))
            self.assertIsNone(node.format_spec)

    def test_l12_and_l17_names(self):
        names = [node.id for node in self.nodes(ast.Name)] + [node.arg for node in self.nodes(ast.arg)]
        names += [node.attr for node in self.nodes(ast.Attribute)]
        names += [node.name for node in self.nodes(ast.FunctionDef, ast.ClassDef) if node.name != "__init__"]
        for name in names:
            self.assertRegex(name, r"\A[A-Za-z][A-Za-z0-9_]*\Z")
            self.assertNotIn(name, NOT_AS_NAMES | UNUSED)
        for text in self.texts.values():
            self.assertIsNone(re.search("dataclass|overload|contextmanager", text))
        for node in self.nodes(ast.Attribute):
            if isinstance(node.ctx, ast.Store):
                self.assertNotIn(node.attr, NOT_AS_VALUES)

    def test_l15_what_stands_at_a_top_is_only_read(self):
        for path, tree in self.trees.items():
            named = [node for node in tree.body if isinstance(node, ast.Assign)]
            kept = {node.targets[0].id: node.value for node in named}
            for node in ast.walk(tree):
                if not isinstance(node, ast.Name) or node.id not in kept:
                    continue
                above = self.parents[node]
                self.assertIs(isinstance(node.ctx, ast.Store), above in tree.body)
                if isinstance(node.ctx, ast.Load) and isinstance(kept[node.id], (ast.List, ast.Tuple, ast.Dict)):
                    read = isinstance(above, ast.Subscript) and isinstance(above.ctx, ast.Load)
                    self.assertTrue(read or isinstance(above, (ast.Compare, ast.For, ast.comprehension)), ast.dump(above))

    def test_l15_parameters_and_locals(self):
        for path, tree in self.trees.items():
            taken = {node.name for node in tree.body if isinstance(node, ast.ClassDef)}
            taken |= {part.name for node in tree.body if isinstance(node, ast.ImportFrom) for part in node.names}
            own = {node.arg for node in ast.walk(tree) if isinstance(node, ast.arg)}
            own |= {node.id for node in ast.walk(tree) if isinstance(node, ast.Name) and isinstance(node.ctx, ast.Store)}
            self.assertEqual(own & (taken | set(dir(builtins))), set(), path)

    def test_l16_no_two_files_draw_from_one_another(self):
        drawn = {path.stem: set() for path in self.trees}
        for path, node in self.tops(ast.ImportFrom):
            drawn[path.stem].add(node.module.split(".")[1])
        while drawn:
            free = [name for name, others in drawn.items() if not others & set(drawn)]
            self.assertNotEqual(free, [], drawn)
            for name in free:
                drawn.pop(name)
        named = [path.stem for path, node in self.tops(ast.FunctionDef, ast.ClassDef) if node.name == "answers"]
        self.assertEqual(named, ["trigger"])

    def test_l18_classes(self):
        classes = {node.name for node in self.nodes(ast.ClassDef)}
        for node in self.nodes(ast.Name):
            if node.id in classes:
                beside = isinstance(self.parents[node], (ast.ClassDef, ast.ExceptHandler))
                self.assertTrue(beside or self.is_called(node), ast.dump(node))
        for node in self.nodes(ast.Attribute):
            if isinstance(node.ctx, ast.Store):
                self.assertIsInstance(node.value, ast.Name)

    def test_l19_errors(self):
        own = {node.name for node in self.nodes(ast.ClassDef) if node.bases}
        for node in self.nodes(ast.Raise):
            self.assertIsInstance(node.exc, ast.Call)
            self.assertIn(node.exc.func.id, own)
        for node in self.nodes(ast.ExceptHandler):
            self.assertIn(node.type.id, own | {"KeyError", "ZeroDivisionError", "StopIteration"})
        for node in self.nodes(ast.ClassDef):
            self.assertEqual([base.id for base in node.bases if base.id != "ValueError"], [])

    def test_l20_is(self):
        for node in self.nodes(ast.Compare):
            for sign, right in zip(node.ops, node.comparators):
                if isinstance(sign, (ast.Is, ast.IsNot)):
                    self.assertIn(right.value, (None, True, False))

    def test_l22_python_s_own_are_called(self):
        for node in self.nodes(ast.Name):
            if hasattr(builtins, node.id) and not node.id.endswith("Error"):
                self.assertTrue(self.is_called(node), node.id)
        for node in self.nodes(ast.Call):
            names = {part.arg for part in node.keywords}
            allowed = KEYWORDS.get(node.func.id, set()) if isinstance(node.func, ast.Name) else set()
            self.assertEqual(names - allowed, set())

    def test_l23_walked_at_once(self):
        for node in self.nodes(ast.Call):
            own = isinstance(node.func, ast.Name) and node.func.id in AT_ONCE
            if own or isinstance(node.func, ast.Attribute) and node.func.attr in ("items", "keys", "values"):
                above = self.parents[node]
                walked = isinstance(above, (ast.For, ast.comprehension)) and above.iter is node
                handed = isinstance(above, ast.Call) and above.args[:1] == [node] and above.func.id in WALKERS
                self.assertTrue(walked or handed, ast.dump(node))

    def test_l23_what_is_walked_is_not_changed(self):
        for loop in self.nodes(ast.For):
            walked = {ast.unparse(part) for part in ast.walk(loop.iter) if isinstance(part, (ast.Name, ast.Attribute))}
            for node in (part for row in loop.body for part in ast.walk(row)):
                changed = None
                if isinstance(node, ast.Subscript) and isinstance(node.ctx, ast.Store):
                    changed = node.value
                if isinstance(node, ast.Call) and isinstance(node.func, ast.Attribute) and node.func.attr in CHANGES:
                    changed = node.func.value
                if changed is not None:
                    self.assertNotIn(ast.unparse(changed), walked)

    def test_l24_no_sets(self):
        for node in self.nodes(ast.Name):
            self.assertNotIn(node.id, ("set", "frozenset"))

    def test_l25_methods_are_called(self):
        values = {node.attr for node in self.nodes(ast.Attribute) if isinstance(node.ctx, ast.Store)}
        for node in self.nodes(ast.Attribute):
            self.assertTrue(node.attr in values or self.is_called(node), node.attr)

    def test_l27_numbers_and_texts(self):
        for node in self.nodes(ast.BinOp):
            if isinstance(node.op, ast.Pow):
                self.assertIsInstance(node.right, ast.Constant)
                self.assertIn(node.right.value, range(65))
        for text in self.texts.values():
            for token in tokenize.generate_tokens(io.StringIO(text).readline):
                if token.type == tokenize.STRING:
                    self.assertNotIn("%", token.string)
                    self.assertNotRegex(token.string.replace("\\\\", ""), r"\\[^nt'\"]")

    def test_l28_methods_with_two_underscores(self):
        for node in self.nodes(ast.FunctionDef):
            if node.name.startswith("__"):
                self.assertEqual(node.name, "__init__")
                self.assertEqual([part for part in ast.walk(node) if isinstance(part, ast.Return)], [])


if __name__ == "__main__":
    unittest.main()
