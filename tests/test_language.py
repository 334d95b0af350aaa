"""Point 2 and the rules of LANGUAGE.md that a look at the files can check."""

import ast
import builtins
import pathlib
import unittest

PACKAGE = pathlib.Path(__file__).resolve().parent.parent / "fieldquery"
BUILTINS = set(
    "len range enumerate zip min max sum abs sorted reversed int str bool bytes list tuple dict set frozenset"
    " isinstance ord repr any all divmod pow iter next map getattr hasattr setattr super property staticmethod"
    " classmethod Exception ValueError TypeError KeyError IndexError LookupError ZeroDivisionError ArithmeticError"
    " OverflowError RuntimeError NotImplementedError AttributeError StopIteration NotImplemented type".split()
)
LIBRARY = {
    "heapq": {"heappush", "heappop", "heapify", "heapreplace", "heappushpop"},
    "math": {"gcd", "lcm", "isqrt", "comb", "perm", "factorial"},
    "itertools": {
        "product", "combinations", "permutations", "chain", "accumulate", "pairwise", "islice", "zip_longest",
    },
    "collections": {"defaultdict", "deque"},
}
DECORATORS = {"property", "staticmethod", "classmethod"}


def files():
    return sorted(path for path in PACKAGE.iterdir() if path.name != "__pycache__")


def trees():
    return [(path.name, ast.parse(path.read_text())) for path in files()]


def nodes(*kinds):
    """All nodes of these kinds in the package, with the names of their files."""
    return [(name, node) for name, tree in trees() for node in ast.walk(tree) if isinstance(node, kinds)]


class TestFiles(unittest.TestCase):
    def test_one_folder_of_python_files(self):
        self.assertIn("__init__.py", [path.name for path in files()])
        for path in files():
            with self.subTest(path.name):
                self.assertTrue(path.is_file())
                self.assertRegex(path.name, r"\A(__init__|[a-z][a-z0-9_]*)\.py\Z")

    def test_characters_and_sizes(self):
        for path in files():
            with self.subTest(path.name):
                text = path.read_text()
                self.assertRegex(text, r"\A[ -~\n]*\Z")
                lines = text.split("\n")
                self.assertLessEqual(len(lines), 400)
                self.assertLessEqual(max(len(line) for line in lines), 120)

    def test_sizes_of_functions(self):
        for name, node in nodes(ast.FunctionDef):
            with self.subTest(f"{name}: {node.name}"):
                self.assertLessEqual(node.end_lineno - node.lineno + 1, 40)

    def test_module_level(self):
        allowed = (ast.ImportFrom, ast.FunctionDef, ast.ClassDef, ast.Assign)
        for name, tree in trees():
            self.assertIsNotNone(ast.get_docstring(tree), name)
            for node in tree.body[1:]:
                with self.subTest(f"{name}: {node.lineno}"):
                    self.assertIsInstance(node, allowed)


class TestWhatIsUsed(unittest.TestCase):
    def test_imports(self):
        self.assertEqual(nodes(ast.Import), [])
        for name, node in nodes(ast.ImportFrom):
            with self.subTest(f"{name}: {node.lineno}"):
                self.assertEqual(node.level, 0)
                told = {alias.name for alias in node.names}
                if node.module in LIBRARY:
                    self.assertLessEqual(told, LIBRARY[node.module])
                else:
                    self.assert_defined(node.module, told)

    def assert_defined(self, module, names):
        package, _, file = module.partition(".")
        self.assertEqual(package, "fieldquery")
        found = set()
        for row in ast.parse((PACKAGE / f"{file}.py").read_text()).body:
            if isinstance(row, (ast.FunctionDef, ast.ClassDef)):
                found.add(row.name)
            elif isinstance(row, ast.Assign):
                found.update(target.id for target in row.targets)
        self.assertLessEqual(names, found)

    def test_builtins(self):
        for name, node in nodes(ast.Name):
            if node.id in dir(builtins):
                with self.subTest(f"{name}: {node.lineno}"):
                    self.assertIn(node.id, BUILTINS)
                    self.assertIsInstance(node.ctx, ast.Load)

    def test_decorators(self):
        for name, node in nodes(ast.FunctionDef, ast.ClassDef):
            for decorator in node.decorator_list:
                with self.subTest(f"{name}: {node.name}"):
                    self.assertIsInstance(node, ast.FunctionDef)
                    self.assertTrue(
                        getattr(decorator, "id", None) in DECORATORS or getattr(decorator, "attr", None) == "setter"
                    )

    def test_statements_and_expressions_that_are_out(self):
        out = (ast.AsyncFunctionDef, ast.AsyncFor, ast.AsyncWith, ast.Await)
        found = [(name, node.lineno) for name, node in nodes(*out)]
        found += [(name, node.lineno) for name, node in nodes(ast.BinOp) if isinstance(node.op, ast.Div)]
        found += [(name, node.lineno) for name, node in nodes(ast.Constant) if isinstance(node.value, (float, complex))]
        self.assertEqual(found, [])

    def test_kinds_are_only_compared(self):
        for name, tree in trees():
            asked = {id(node) for node in ast.walk(tree) if isinstance(node, ast.Name) and node.id == "type"}
            for node in ast.walk(tree):
                if isinstance(node, ast.Compare) and len(node.ops) == 1 and isinstance(node.ops[0], ast.Is):
                    asked -= {id(side.func) for side in (node.left, *node.comparators) if isinstance(side, ast.Call)}
            self.assertEqual(asked, set(), name)

    def test_no_generators(self):
        self.assertEqual(nodes(ast.GeneratorExp, ast.Yield, ast.YieldFrom), [])

    def test_double_underscore_methods(self):
        told = {node.name for _, node in nodes(ast.FunctionDef) if node.name.startswith("__")}
        self.assertEqual(told, {"__init__", "__eq__", "__len__", "__iter__", "__enter__", "__exit__"})

    def test_errors_that_are_caught_are_own_ones(self):
        caught = {node.type.id for _, node in nodes(ast.ExceptHandler)}
        self.assertEqual(caught, {"BadGraph", "Contradiction", "NoMatch"})

    def test_no_state_at_module_level(self):
        for name, tree in trees():
            told = [target.id for row in tree.body if isinstance(row, ast.Assign) for target in row.targets]
            with self.subTest(name):
                self.assertEqual(len(told), len(set(told)))
        self.assertEqual(nodes(ast.Global), [])


if __name__ == "__main__":
    unittest.main()
