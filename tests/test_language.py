"""The package keeps to its part of Python: what can be seen of the rules L1 to L28 in its files."""

import ast
import pathlib
import re
import unittest

PACKAGE = pathlib.Path(__file__).resolve().parent.parent / "measuredterms"
STATEMENTS = (ast.Assign, ast.AugAssign, ast.If, ast.While, ast.For, ast.Return, ast.Break, ast.Continue, ast.Pass, ast.Raise,
              ast.Try, ast.Expr, ast.FunctionDef, ast.ClassDef, ast.ImportFrom)
EXPRESSIONS = (ast.Constant, ast.Name, ast.Attribute, ast.Subscript, ast.Slice, ast.Call, ast.BinOp, ast.UnaryOp, ast.BoolOp,
               ast.Compare, ast.IfExp, ast.List, ast.Tuple, ast.Dict, ast.ListComp, ast.JoinedStr, ast.FormattedValue, ast.Lambda)
BUILT_IN = ("len range enumerate zip min max sum abs sorted reversed int str bool list tuple dict set frozenset isinstance ord repr "
            "any all divmod Exception ValueError TypeError KeyError IndexError LookupError ZeroDivisionError ArithmeticError "
            "OverflowError RuntimeError NotImplementedError StopIteration").split()
PYTHONS_METHODS = ("append clear copy count endswith extend find get index insert isalnum isalpha isdigit islower isspace isupper items "
                   "join keys ljust lower lstrip partition pop remove replace reverse rfind rjust rpartition rsplit rstrip setdefault "
                   "split splitlines startswith strip update upper values zfill bit_length").split()
OWN_VALUES_LIKE_PYTHONS = "count index title find get join lower upper split strip copy add".split()
NEVER_NAMED = ("register mro elements open input version_info with_traceback add_note attrgetter breakpoint builtins compile copyright "
               "credits delattr dir eval exec exit gc getattr globals hasattr help id importlib license locals methodcaller os quit "
               "setattr super vars sys").split()
NEVER_WRITTEN = ("type typing typing_extensions enum Enum IntEnum StrEnum Flag IntFlag Generic Protocol ABC ABCMeta namedtuple "
                 "NamedTuple TypedDict TYPE_CHECKING abstractmethod").split()
ALL_BUILT_IN = dir(__builtins__) if not isinstance(__builtins__, dict) else list(__builtins__)
PYTHONS_OWN = {name for kind in (str, int, list, dict, set, frozenset, bytes, tuple) for name in dir(kind)}


def files():
    return [(path.name, path.read_text(encoding="ascii")) for path in sorted(PACKAGE.glob("*.py"))]


class LanguageTest(unittest.TestCase):
    def each(self):
        for name, text in files():
            with self.subTest(name):
                yield name, text, ast.parse(text)

    def nodes(self, *kinds):
        for name, text, tree in self.each():
            for node in ast.walk(tree):
                if isinstance(node, kinds):
                    yield name, node

    def test_files(self):
        found = [path.name for path in PACKAGE.iterdir() if path.name != "__pycache__"]
        for name in found:
            self.assertRegex(name, r"\A[a-z0-9_]+\.py\Z")
            self.assertNotIn(name[:-3], ALL_BUILT_IN)
        self.assertIn("__init__.py", found)
        self.assertIn("world.py", found)

    def test_size_and_signs(self):
        for name, text, tree in self.each():
            lines = text.split("\n")
            self.assertLessEqual(len(lines), 400)
            self.assertLessEqual(max(len(line) for line in lines), 120)
            self.assertRegex(text, r"\A[ -~\n]*\Z")
            for word in re.findall(r"[A-Za-z_]+", text):
                self.assertNotIn(word, NEVER_WRITTEN)
                self.assertNotRegex(word, "dataclass|overload|contextmanager")
        for name, node in self.nodes(ast.FunctionDef):
            self.assertLessEqual(node.end_lineno - node.lineno + 1, 40, (name, node.name))

    def test_statements_and_expressions(self):
        for name, node in self.nodes(ast.stmt):
            self.assertIsInstance(node, STATEMENTS, (name, node.lineno))
        for name, node in self.nodes(ast.expr):
            self.assertIsInstance(node, EXPRESSIONS, (name, node.lineno))
        for name, node in self.nodes(ast.Assign):
            self.assertEqual(len(node.targets), 1, (name, node.lineno))
        for name, node in self.nodes(ast.For, ast.While):
            self.assertEqual(node.orelse, [], (name, node.lineno))
        for name, node in self.nodes(ast.Try):
            self.assertEqual(node.finalbody, [], (name, node.lineno))
        for name, node in self.nodes(ast.ListComp):
            self.assertEqual(len(node.generators), 1, (name, node.lineno))
            self.assertLessEqual(len(node.generators[0].ifs), 1, (name, node.lineno))
        for name, node in self.nodes(ast.Div, ast.MatMult):
            self.fail((name, node))

    def test_powers_are_written_out(self):
        for name, node in self.nodes(ast.BinOp):
            if isinstance(node.op, ast.Pow):
                self.assertIsInstance(node.right, ast.Constant, (name, node.lineno))
                self.assertIn(node.right.value, range(65), (name, node.lineno))

    def test_constants(self):
        for name, node in self.nodes(ast.Constant):
            self.assertIsInstance(node.value, (int, str, bool, None.__class__), (name, node.lineno))
            if isinstance(node.value, str):
                self.assertNotIn("%", node.value, (name, node.lineno))

    def test_functions(self):
        for name, node in self.nodes(ast.FunctionDef):
            arguments = node.args
            self.assertEqual((arguments.vararg, arguments.kwarg, arguments.kwonlyargs, arguments.posonlyargs), (None, None, [], []))
            self.assertEqual(node.decorator_list, [])

    def test_names(self):
        for name, node in self.nodes(ast.Name):
            if node.id in ALL_BUILT_IN:
                self.assertIn(node.id, BUILT_IN, (name, node.lineno))
                self.assertIsInstance(node.ctx, ast.Load, (name, node.lineno))
            self.assertRegex(node.id, r"\A[A-Za-z][A-Za-z0-9_]*\Z")
            self.assertNotIn(node.id, NEVER_NAMED, (name, node.lineno))
        for name, node in self.nodes(ast.arg):
            self.assertNotIn(node.arg, ALL_BUILT_IN, name)
            self.assertNotIn(node.arg, NEVER_NAMED, name)
        for name, node in self.nodes(ast.FunctionDef, ast.ClassDef):
            self.assertNotIn(node.name, ALL_BUILT_IN, name)
            if node.name != "__init__":
                self.assertFalse(node.name.startswith("_"), (name, node.name))

    def test_no_local_is_called_like_an_import_or_a_class(self):
        for name, text, tree in self.each():
            outer = [alias.name for node in tree.body if isinstance(node, ast.ImportFrom) for alias in node.names]
            outer += [node.name for node in tree.body if isinstance(node, ast.ClassDef)]
            bound = [node.id for node in ast.walk(tree) if isinstance(node, ast.Name) and isinstance(node.ctx, ast.Store)]
            bound += [node.arg for node in ast.walk(tree) if isinstance(node, ast.arg)]
            self.assertEqual(sorted(set(outer) & set(bound)), [])

    def test_imports(self):
        drawn = {}
        defined = {}
        for name, text, tree in self.each():
            module = "measuredterms." + name[:-3]
            defined[module] = [node.name for node in tree.body if isinstance(node, (ast.FunctionDef, ast.ClassDef))]
            defined[module] += [node.targets[0].id for node in tree.body if isinstance(node, ast.Assign)]
            drawn[module] = [node for node in ast.walk(tree) if isinstance(node, ast.ImportFrom)]
            for node in drawn[module]:
                self.assertIn(node, tree.body)
            self.assertEqual(len(defined[module]), len(set(defined[module])), module)
        for module, nodes in drawn.items():
            for node in nodes:
                for alias in node.names:
                    self.assertIn(alias.name, defined[node.module], module)
                    self.assertIsNone(alias.asname)
        order = {}
        while len(order) < len(drawn):
            free = [module for module in drawn if module not in order and all(node.module in order for node in drawn[module])]
            self.assertNotEqual(free, [], "files draw from one another")
            order.update({module: True for module in free})

    def test_tops_of_files(self):
        for name, text, tree in self.each():
            self.assertIsNotNone(ast.get_docstring(tree))
            for node in tree.body[1:]:
                self.assertIsInstance(node, (ast.ImportFrom, ast.FunctionDef, ast.ClassDef, ast.Assign))
            for node in [node for node in tree.body if isinstance(node, ast.Assign)]:
                for inside in ast.walk(node.value):
                    self.assertIsInstance(inside, (ast.Constant, ast.Dict, ast.List, ast.Tuple, ast.Name, ast.expr_context), (name, node.lineno))
                for inside in ast.iter_child_nodes(node.value):
                    self.assertNotIsInstance(inside, (ast.Dict, ast.List), (name, node.lineno))

    def test_classes(self):
        methods = set()
        values = set()
        for name, node in self.nodes(ast.ClassDef):
            self.assertLessEqual(len(node.bases), 1)
            self.assertEqual(node.decorator_list, [])
            for inside in node.body:
                documents = isinstance(inside, ast.Expr) and isinstance(inside.value, ast.Constant)
                self.assertTrue(documents or isinstance(inside, ast.FunctionDef), (name, inside.lineno))
            methods |= {inside.name for inside in node.body if isinstance(inside, ast.FunctionDef) and inside.name != "__init__"}
        for name, node in self.nodes(ast.Attribute):
            if isinstance(node.ctx, ast.Store):
                self.assertIsInstance(node.value, ast.Name, (name, node.lineno))
                values.add(node.attr)
            elif not node.attr.startswith("__"):
                self.assertTrue(node.attr in PYTHONS_METHODS or node.attr not in PYTHONS_OWN, (name, node.lineno, node.attr))
        self.assertEqual(methods & values, set())
        for value in values:
            self.assertTrue(value not in PYTHONS_OWN or value in OWN_VALUES_LIKE_PYTHONS, value)
        for method in methods:
            self.assertTrue(method not in PYTHONS_OWN or method in PYTHONS_METHODS + ["add", "discard"], method)

    def test_errors(self):
        for name, node in self.nodes(ast.ExceptHandler):
            self.assertIsInstance(node.type, ast.Name, (name, node.lineno))
            self.assertNotIn(node.type.id, ["Exception", "TypeError", "ValueError", "LookupError", "IndexError"], (name, node.lineno))
        for name, node in self.nodes(ast.Raise):
            self.assertIsInstance(node.exc, ast.Call, (name, node.lineno))

    def test_is(self):
        for name, node in self.nodes(ast.Compare):
            for operator, right in zip(node.ops, node.comparators):
                if isinstance(operator, (ast.Is, ast.IsNot)):
                    self.assertIsInstance(right, ast.Constant, (name, node.lineno))

    def test_walked_at_once(self):
        walked = []
        for name, node in self.nodes(ast.For, ast.comprehension):
            walked.append(node.iter)
        for name, node in self.nodes(ast.Call):
            if isinstance(node.func, ast.Name) and node.func.id in ("range", "zip", "enumerate", "reversed"):
                places = [(place.lineno, place.col_offset) for place in walked]
                self.assertIn((node.lineno, node.col_offset), places, (name, node.lineno))

    def test_lists_and_dicts_of_a_files_top_are_only_read(self):
        for name, text, tree in self.each():
            kept = [node.targets[0].id for node in tree.body if isinstance(node, ast.Assign) and isinstance(node.value, (ast.Dict, ast.List))]
            fine = []
            for node in ast.walk(tree):
                if isinstance(node, ast.Subscript) and isinstance(node.ctx, ast.Load):
                    fine.append(node.value)
                if isinstance(node, ast.Compare):
                    fine += node.comparators
            for node in ast.walk(tree):
                if isinstance(node, ast.Name) and node.id in kept and isinstance(node.ctx, ast.Load):
                    self.assertTrue(any(node is place for place in fine), (name, node.lineno))


if __name__ == "__main__":
    unittest.main()
