"""The package's files keep to the part of Python that the program is written in, as far as a walk can see."""

import ast
import builtins
import os
import re
import unittest

PACKAGE = os.path.join(os.path.dirname(os.path.dirname(os.path.abspath(__file__))), "foldedstrand")
BUILT_IN = set("""len range enumerate zip min max sum abs sorted reversed int str bool list tuple dict set frozenset
    isinstance ord repr any all divmod""".split())
METHODS = set("""append clear copy count endswith extend find get index insert isalnum isalpha isdigit islower isspace
    isupper items join keys ljust lower lstrip partition pop remove replace reverse rfind rjust rpartition rsplit rstrip
    setdefault split splitlines startswith strip update upper values zfill bit_length""".split())
STATEMENTS = (ast.FunctionDef, ast.ClassDef, ast.Assign, ast.AugAssign, ast.If, ast.While, ast.For, ast.Return,
              ast.Break, ast.Continue, ast.Pass, ast.Raise, ast.Expr, ast.ImportFrom)
EXPRESSIONS = (ast.Constant, ast.List, ast.Tuple, ast.Dict, ast.BinOp, ast.UnaryOp, ast.Compare, ast.BoolOp, ast.IfExp,
               ast.Call, ast.Attribute, ast.Subscript, ast.Slice, ast.ListComp, ast.Name)
WORDS = re.compile(r"\b(type|typing|typing_extensions|enum|Enum|IntEnum|StrEnum|Flag|IntFlag|Generic|Protocol|ABC|"
                   r"ABCMeta|namedtuple|NamedTuple|TypedDict|TYPE_CHECKING|abstractmethod)\b|"
                   r"dataclass|overload|contextmanager")
WALKED = ("zip", "enumerate", "reversed", "range")


def package_files():
    return sorted(name for name in os.listdir(PACKAGE) if name != "__pycache__")


def read(name):
    with open(os.path.join(PACKAGE, name), encoding="utf-8") as file:
        return file.read()


def plain(node):
    """A value that may stand at a file's top."""
    if isinstance(node, ast.Constant):
        return isinstance(node.value, (int, str, type(None)))
    if isinstance(node, (ast.Tuple, ast.List)):
        return all(plain(part) for part in node.elts)
    return isinstance(node, ast.Dict) and all(plain(part) for part in node.keys + node.values)


class LanguageTest(unittest.TestCase):
    def each_tree(self):
        for name in package_files():
            yield name, ast.parse(read(name))

    def each_node(self, *kinds):
        for name, tree in self.each_tree():
            for node in ast.walk(tree):
                if isinstance(node, kinds):
                    yield name, node

    def test_files(self):
        self.assertIn("__init__.py", package_files())
        for name in package_files():
            self.assertRegex(name, r"^(__init__|[a-z][a-z0-9_]*)\.py$")
            text = read(name)
            self.assertRegex(text, r"\A[\n -~]*\Z")
            self.assertIsNone(WORDS.search(text), name)
            self.assertLessEqual(len(text.splitlines()), 400)
            self.assertLessEqual(max(len(line) for line in text.splitlines()), 120)

    def test_the_top_of_a_file(self):
        for name, tree in self.each_tree():
            bound = []
            for node in tree.body:
                if isinstance(node, ast.Assign):
                    self.assertTrue(plain(node.value), (name, node.lineno))
                    bound.append(node.targets[0].id)
                elif isinstance(node, (ast.FunctionDef, ast.ClassDef)):
                    bound.append(node.name)
                elif isinstance(node, ast.Expr):
                    self.assertIsInstance(node.value, ast.Constant)
                else:
                    self.assertIsInstance(node, ast.ImportFrom)
                    bound.extend(alias.name for alias in node.names)
            self.assertEqual(len(bound), len(set(bound)), name)

    def test_imports_are_the_package_s_own(self):
        drawn = {}
        for name, node in self.each_node(ast.ImportFrom, ast.Import):
            self.assertIsInstance(node, ast.ImportFrom)
            self.assertRegex(node.module, r"^foldedstrand\.[a-z]+$")
            self.assertTrue(all(alias.asname is None for alias in node.names))
            drawn.setdefault(name, []).append(node.module.split(".")[1] + ".py")
            tree = ast.parse(read(drawn[name][-1]))
            defined = [part.name for part in tree.body if isinstance(part, (ast.FunctionDef, ast.ClassDef))]
            defined += [part.targets[0].id for part in tree.body if isinstance(part, ast.Assign)]
            self.assertLessEqual({alias.name for alias in node.names}, set(defined))
        while drawn:
            free = [name for name in drawn if not any(other in drawn for other in drawn[name])]
            self.assertTrue(free, drawn)
            for name in free:
                drawn.pop(name)

    def test_statements_and_expressions(self):
        for name, node in self.each_node(ast.stmt):
            self.assertIsInstance(node, STATEMENTS, (name, node.lineno))
            self.assertFalse(isinstance(node, (ast.For, ast.While)) and node.orelse)
            if isinstance(node, ast.Assign):
                self.assertEqual(len(node.targets), 1)
                self.assertNotIsInstance(node.targets[0], (ast.Tuple, ast.List))
        for name, node in self.each_node(ast.expr):
            self.assertIsInstance(node, EXPRESSIONS, (name, node.lineno))
            if isinstance(node, ast.ListComp):
                self.assertEqual(len(node.generators), 1)
                self.assertLessEqual(len(node.generators[0].ifs), 1)
            if isinstance(node, ast.BinOp):
                self.assertNotIsInstance(node.op, ast.Div)
                if isinstance(node.op, ast.Pow):
                    self.assertLessEqual(node.right.value, 64)

    def test_functions_and_classes(self):
        for name, node in self.each_node(ast.FunctionDef):
            self.assertLessEqual(node.end_lineno - node.lineno + 1, 40, (name, node.name))
            given = node.args
            self.assertFalse(node.decorator_list or node.returns or given.vararg or given.kwarg or given.kwonlyargs)
        for name, node in self.each_node(ast.ClassDef):
            self.assertFalse(node.decorator_list or node.bases or node.keywords)
            for part in node.body:
                self.assertTrue(isinstance(part, ast.FunctionDef) or isinstance(part.value, ast.Constant))

    def test_names(self):
        for name, tree in self.each_tree():
            nodes = list(ast.walk(tree))
            stored = {node.id for node in nodes if isinstance(node, ast.Name) and isinstance(node.ctx, ast.Store)}
            stored |= {node.arg for node in nodes if isinstance(node, ast.arg)}
            defined = {node.name for node in nodes if isinstance(node, (ast.FunctionDef, ast.ClassDef))}
            drawn = {alias.name for node in nodes if isinstance(node, ast.ImportFrom) for alias in node.names}
            self.assertFalse(stored & set(dir(builtins)))
            self.assertFalse(stored & (drawn | defined), name)
            self.assertFalse([word for word in stored | defined if word.startswith("_") and word != "__init__"])
            for node in nodes:
                if isinstance(node, ast.Name) and isinstance(node.ctx, ast.Load):
                    self.assertIn(node.id, stored | defined | drawn | BUILT_IN, (name, node.lineno))

    def test_methods_and_values(self):
        own = {node.name for name, node in self.each_node(ast.FunctionDef)}
        kept = set()
        for name, tree in self.each_tree():
            called = {node.func for node in ast.walk(tree) if isinstance(node, ast.Call)}
            for node in ast.walk(tree):
                if isinstance(node, ast.Attribute) and node in called:
                    self.assertIn(node.attr, METHODS | own, (name, node.lineno))
                elif isinstance(node, ast.Attribute):
                    kept.add(node.attr)
        self.assertFalse(kept & own)
        for python_s in (str, int, list, dict, set, bytes):
            self.assertFalse(kept & set(dir(python_s)))

    def test_walked_at_once(self):
        for name, tree in self.each_tree():
            walked = set()
            for node in ast.walk(tree):
                if isinstance(node, (ast.For, ast.comprehension)):
                    walked.add(node.iter)
            for node in ast.walk(tree):
                if isinstance(node, ast.Call) and isinstance(node.func, ast.Name) and node.func.id in WALKED:
                    self.assertIn(node, walked, (name, node.lineno))

    def test_is_stands_beside_none_alone(self):
        for name, node in self.each_node(ast.Compare):
            for sign, other in zip(node.ops, node.comparators):
                if isinstance(sign, (ast.Is, ast.IsNot)):
                    self.assertIsNone(other.value)


if __name__ == "__main__":
    unittest.main()
