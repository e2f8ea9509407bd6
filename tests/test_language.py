"""The rules of the language that can be read off the files of the package."""

import ast
import builtins
import pathlib
import re
import unittest

PACKAGE = pathlib.Path(__file__).parent.parent / "suretexts"
PATHS = sorted(path for path in PACKAGE.iterdir() if path.name != "__pycache__")
TREES = {path.stem: ast.parse(path.read_text()) for path in PATHS}

BUILTINS = (
    "len range enumerate zip min max sum abs sorted reversed int str bool list tuple dict set isinstance ord repr any "
    "all divmod ValueError LookupError RuntimeError ArithmeticError TypeError").split()
METHODS = (
    "append copy count endswith extend find get index insert isdigit items join keys pop remove replace reverse "
    "setdefault split startswith strip values").split()
LIBRARY = {"heapq": ["heappush", "heappop"], "math": ["gcd", "factorial"]}
SPECIAL = (
    "__init__ __eq__ __len__ __contains__ __getitem__ __iter__ __call__ __enter__ __exit__").split()
STATEMENTS = (
    ast.Assign, ast.AugAssign, ast.If, ast.While, ast.For, ast.Return, ast.Break, ast.Continue, ast.Pass, ast.Raise,
    ast.Expr, ast.FunctionDef, ast.ClassDef, ast.ImportFrom, ast.Try, ast.With)
EXPRESSIONS_LEFT_OUT = (
    ast.GeneratorExp, ast.Lambda, ast.NamedExpr, ast.Yield, ast.YieldFrom, ast.Await, ast.Div, ast.Set)
BARRED_WORDS = re.compile(
    r"\b(type|typing|enum|Enum|Flag|Generic|Protocol|ABC|namedtuple|NamedTuple|register|mro|elements|open|input|law)\b"
    r"|dataclass|overload|contextmanager|_wall|_WallAttr")


def defined(tree):
    """The names that a file gives at module level, but for its imports."""
    names = [node.name for node in tree.body if isinstance(node, (ast.FunctionDef, ast.ClassDef))]
    return names + [node.targets[0].id for node in tree.body if isinstance(node, ast.Assign)]


def imports(tree):
    return [node for node in tree.body if isinstance(node, ast.ImportFrom)]


def without_docstrings(tree):
    for node in ast.walk(tree):
        if isinstance(node, (ast.Module, ast.ClassDef, ast.FunctionDef)) and ast.get_docstring(node) is not None:
            node.body = node.body[1:]
    return tree


class Language(unittest.TestCase):
    def each_node(self, *kinds):
        for name, tree in TREES.items():
            for node in ast.walk(tree):
                if isinstance(node, kinds):
                    with self.subTest(file=name, line=getattr(node, "lineno", 0)):
                        yield node

    def test_files(self):
        self.assertIn("__init__", TREES)
        for path in PATHS:
            self.assertRegex(path.name, r"^[a-z_]+\.py$")
            text = path.read_text()
            self.assertRegex(text, r"\A[ -~\n]*\Z")
            lines = text.split("\n")
            self.assertLess(len(lines), 400)
            self.assertLessEqual(max(len(line) for line in lines), 120)
            self.assertEqual([line for line in lines if line != line.rstrip()], [])

    def test_functions_are_small(self):
        for node in self.each_node(ast.FunctionDef):
            self.assertLessEqual(node.end_lineno - node.lineno + 1, 40)

    def test_imports(self):
        order = {}
        for name, tree in TREES.items():
            order[name] = []
            for node in imports(tree):
                self.assertEqual(node.level, 0)
                if node.module in LIBRARY:
                    self.check_library(tree, node)
                    continue
                package, _, file = node.module.partition(".")
                self.assertEqual(package, "suretexts")
                order[name].append(file)
                for alias in node.names:
                    self.assertIsNone(alias.asname)
                    self.assertIn(alias.name, defined(TREES[file]))
        while order:
            free = [name for name, needed in order.items() if not any(file in order for file in needed)]
            self.assertNotEqual(free, [])
            for name in free:
                del order[name]

    def check_library(self, tree, node):
        """What comes from the library is called by its own name, and nothing else."""
        names = [alias.name for alias in node.names]
        self.assertLessEqual(set(names), set(LIBRARY[node.module]))
        self.assertEqual([alias.asname for alias in node.names], [None] * len(names))
        called = [call.func for call in ast.walk(tree) if isinstance(call, ast.Call) and call.keywords == []]
        for name in ast.walk(tree):
            if isinstance(name, ast.Name) and name.id in names:
                self.assertIn(name, called)

    def test_imported_names_are_used(self):
        for file, tree in TREES.items():
            used = [node.id for node in ast.walk(tree) if isinstance(node, ast.Name)]
            for node in imports(tree):
                for alias in node.names:
                    with self.subTest(file=file, name=alias.name):
                        self.assertIn(alias.name, used)

    def test_module_level(self):
        for tree in TREES.values():
            for node in tree.body:
                self.assertIsInstance(node, (ast.Expr, ast.ImportFrom, ast.FunctionDef, ast.ClassDef, ast.Assign))
                if isinstance(node, (ast.Expr, ast.Assign)):
                    self.check_plain(node.value, [other.name for other in tree.body if isinstance(other,
                        ast.FunctionDef)])
            names = defined(tree) + [alias.name for node in imports(tree) for alias in node.names]
            self.assertEqual(len(names), len(set(names)))

    def check_plain(self, value, functions):
        """A constant, or a tuple or dict of such and of functions, in which nothing but tuples is within."""
        within = list(ast.iter_child_nodes(value))
        if isinstance(value, (ast.Tuple, ast.Dict)):
            for node in within:
                if isinstance(node, ast.Name):
                    self.assertIn(node.id, functions)
                elif not isinstance(node, ast.Load):
                    self.assertNotIsInstance(node, ast.Dict)
                    self.check_plain(node, functions)
        else:
            self.assertIsInstance(value, ast.Constant)

    def test_powers_have_plain_exponents(self):
        for node in self.each_node(ast.BinOp):
            if isinstance(node.op, ast.Pow):
                self.assertIsInstance(node.right, ast.Constant)
                self.assertTrue(0 <= node.right.value <= 64)

    def test_errors_that_are_caught(self):
        own = [node.name for node in TREES["errors"].body if isinstance(node, ast.ClassDef)]
        for node in self.each_node(ast.Try):
            self.assertEqual([node.finalbody, node.orelse, len(node.body)], [[], [], 1])
            for handler in node.handlers:
                caught = handler.type.elts if isinstance(handler.type, ast.Tuple) else [handler.type]
                self.assertLessEqual({name.id for name in caught}, set(own))

    def test_what_blocks_leave(self):
        """Behind a block only names and attributes are assigned."""
        for node in self.each_node(ast.FunctionDef):
            if node.name == "__exit__":
                self.assertEqual([arg.arg for arg in node.args.args], ["self", "kind", "value", "trace"])
                for row in node.body:
                    self.assertIsInstance(row, ast.Assign)
                    for side in (row.targets[0], row.value):
                        self.assertIsInstance(side, (ast.Name, ast.Attribute))

    def test_statements_and_expressions(self):
        for node in self.each_node(ast.stmt):
            self.assertIsInstance(node, STATEMENTS)
        for _ in self.each_node(*EXPRESSIONS_LEFT_OUT):
            self.fail("left out")
        for node in self.each_node(ast.Constant):
            self.assertNotIsInstance(node.value, (float, bytes, complex))

    def test_functions_and_classes(self):
        for node in self.each_node(ast.FunctionDef):
            self.assertIn([ast.unparse(row) for row in node.decorator_list], ([], ["property"], ["classmethod"]))
            self.assertEqual([node.args.kwarg, node.args.kwonlyargs, node.args.defaults], [None, [], []])
            if node.args.vararg is not None:
                self.assertEqual(node.args.args[0].arg, "self")
            if node.name.startswith("__"):
                self.assertIn(node.name, SPECIAL)

    def test_names(self):
        for name, tree in TREES.items():
            taken = dir(builtins) + [alias.name for node in imports(tree) for alias in node.names]
            taken += [node.name for node in tree.body if isinstance(node, ast.ClassDef)]
            for node in ast.walk(tree):
                bound = node.arg if isinstance(node, ast.arg) else ""
                if isinstance(node, ast.Name) and isinstance(node.ctx, ast.Store):
                    bound = node.id
                with self.subTest(file=name, bound=bound):
                    # Doctest leaves a builtin of the name _ behind.
                    self.assertFalse(bound != "_" and bound in taken)
                    self.assertNotRegex(bound, r"^__|^_(cold|record|outside|pe_|enum_|cm_)")

    def test_builtins_and_methods(self):
        for node in self.each_node(ast.Name):
            if isinstance(node.ctx, ast.Load) and node.id in dir(builtins):
                self.assertIn(node.id, BUILTINS + ["property", "classmethod"])
        own = [node.name for tree in TREES.values() for node in ast.walk(tree) if isinstance(node, ast.FunctionDef)]
        for node in self.each_node(ast.Call):
            if isinstance(node.func, ast.Attribute):
                self.assertIn(node.func.attr, METHODS + own)

    def test_words(self):
        for tree in TREES.values():
            bare = without_docstrings(ast.parse(ast.unparse(tree)))
            for node in ast.walk(bare):
                if isinstance(node, ast.Constant) and isinstance(node.value, str):
                    self.assertNotIn(chr(37), node.value)
                for field in ("id", "attr", "arg", "name", "value"):
                    word = getattr(node, field, None)
                    if isinstance(word, str):
                        self.assertNotRegex(word, BARRED_WORDS)
