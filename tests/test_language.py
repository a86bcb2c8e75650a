"""Rules of the language subset that can be told from the text of the package's files."""

import ast
import builtins
import pathlib
import unittest

FOLDER = pathlib.Path(__file__).resolve().parent.parent / "ledlines"
PATHS = sorted(FOLDER.rglob("*.py"))
BUILTINS = set("""
    len range enumerate zip min max sum abs sorted reversed int str bool bytes list tuple dict set frozenset isinstance
    ord repr any all divmod pow getattr hasattr setattr iter next map property super classmethod staticmethod Exception
    ValueError TypeError KeyError IndexError LookupError ZeroDivisionError ArithmeticError OverflowError RuntimeError
    NotImplementedError AttributeError StopIteration NotImplemented
""".split())
METHODS = set("""
    append clear copy count endswith extend find get index insert isalnum isalpha isdigit islower isspace isupper items
    join keys ljust lower lstrip partition pop remove replace reverse rfind rjust rpartition rsplit rstrip setdefault
    split splitlines startswith strip update upper values zfill bit_length add discard
""".split())
LIBRARY = {"heapq", "math", "itertools", "collections"}
BARRED = (ast.GeneratorExp, ast.Global, ast.AsyncFunctionDef, ast.Await, ast.Import, ast.Div, ast.AnnAssign)


def trees():
    return [(path.name, ast.parse(path.read_text(encoding="ascii"))) for path in PATHS]


def nodes(kind):
    return [(name, node) for name, tree in trees() for node in ast.walk(tree) if isinstance(node, kind)]


def is_test_of_exit(node):
    """Tell whether an `if` in `__exit__` may ask this: a class of the package has `__eq__` and `__len__`."""
    if isinstance(node, ast.BoolOp):
        return all(is_test_of_exit(value) for value in node.values)
    if isinstance(node, ast.UnaryOp) and isinstance(node.op, ast.Not):
        return is_test_of_exit(node.operand)
    if not isinstance(node, ast.Compare) or not isinstance(node.left, (ast.Name, ast.Attribute)):
        return False
    return isinstance(node.ops[0], (ast.Is, ast.IsNot)) and [ast.unparse(one) for one in node.comparators] == ["None"]


def is_value_of_exit(node):
    """Tell whether something may be assigned or appended in `__exit__`."""
    if isinstance(node, (ast.List, ast.Tuple)):
        return all(is_value_of_exit(value) for value in node.elts)
    if isinstance(node, ast.BinOp):
        fits = isinstance(node.op, ast.Add) or (isinstance(node.op, ast.Sub) and isinstance(node.right, ast.Constant))
        return fits and is_value_of_exit(node.left) and is_value_of_exit(node.right)
    return isinstance(node, (ast.Name, ast.Attribute, ast.Constant))


def is_row_of_exit(node):
    """Tell whether `__exit__` may have such a statement."""
    if isinstance(node, ast.If):
        return is_test_of_exit(node.test) and all(is_row_of_exit(row) for row in node.body + node.orelse)
    if isinstance(node, ast.Assign):
        to_name = isinstance(node.targets[0], ast.Name) and isinstance(node.value, ast.Attribute)
        fits = to_name or (isinstance(node.targets[0], ast.Attribute) and is_value_of_exit(node.value))
        return fits and len(node.targets) == 1
    if isinstance(node, ast.AugAssign):
        fits = isinstance(node.target, ast.Attribute) and isinstance(node.value, ast.Constant)
        return fits and isinstance(node.op, (ast.Add, ast.Sub))
    if isinstance(node, ast.Expr) and isinstance(node.value, ast.Call):
        name = getattr(node.value.func, "attr", None)
        return name in ("append", "clear") and all(is_value_of_exit(value) for value in node.value.args)
    return isinstance(node, ast.Pass) or ast.unparse(node) in ("return", "return None", "return False")


def statement(text):
    return ast.parse(text).body[0]


class LanguageTest(unittest.TestCase):
    def test_the_folder_contains_python_files_only(self):
        found = [path for path in FOLDER.rglob("*") if path.is_file() and path.suffix != ".pyc"]
        self.assertEqual(sorted(found), PATHS)
        self.assertIn(FOLDER / "__init__.py", PATHS)

    def test_characters_and_sizes(self):
        for path in PATHS:
            text = path.read_text(encoding="ascii")
            rows = text.split("\n")
            self.assertLess(len(rows), 400, path.name)
            for number, row in enumerate(rows, 1):
                self.assertTrue(len(row) <= 120 and all(" " <= sign <= "~" for sign in row), (path.name, number))

    def test_lengths_of_functions(self):
        for name, node in nodes(ast.FunctionDef):
            self.assertLessEqual(node.end_lineno - node.lineno + 1, 40, (name, node.name))
            for decorator in node.decorator_list:
                self.assertIn(ast.unparse(decorator).split(".")[-1],
                              ("property", "setter", "staticmethod", "classmethod"), (name, node.name))

    def test_imports(self):
        for name, node in nodes(ast.ImportFrom):
            self.assertTrue(node.level == 0 and (node.module in LIBRARY or node.module.startswith("ledlines.")), name)
            self.assertTrue(all(alias.name != "*" and alias.asname is None for alias in node.names), name)

    def test_module_level(self):
        allowed = (ast.ImportFrom, ast.FunctionDef, ast.ClassDef, ast.Assign)
        for name, tree in trees():
            self.assertIsNotNone(ast.get_docstring(tree), name)
            for node in tree.body[1:]:
                self.assertIsInstance(node, allowed, name)

    def test_barred_expressions_and_statements(self):
        self.assertEqual([(name, node.lineno) for name, node in nodes(BARRED)], [])
        values = [(name, node.value) for name, node in nodes(ast.Constant)]
        self.assertEqual([found for found in values if isinstance(found[1], (float, complex))], [])
        self.assertEqual([found for found in values if isinstance(found[1], str) and "\x25" in found[1]], [])

    def test_rows_of_exit(self):
        exits = [(name, node) for name, node in nodes(ast.FunctionDef) if node.name == "__exit__"]
        self.assertEqual([name for name, node in exits], ["sketches.py"])
        for name, node in exits:
            for row in node.body:
                self.assertTrue(is_row_of_exit(row), (name, row.lineno))
            locals_given = [row for row in ast.walk(node) if isinstance(row, ast.Name) and isinstance(row.ctx, ast.Store)]
            self.assertLessEqual(len(locals_given), 1, name)
            handed = [argument.arg for argument in node.args.args[1:]]
            reads = [row.id for row in ast.walk(node) if isinstance(row, ast.Name) and row.id in handed]
            self.assertLessEqual(set(reads), {"kind"}, name)

    def test_rows_that_exit_must_not_have(self):
        for row in ("if not self.held: pass", "if self.held: pass", "if self.n == 0: pass", "if self.a is True: pass",
                    "if kind is None and self.n: pass", "if self.told() is None: pass", "if a is None is None: pass",
                    "if kind is None: self.told()", "self.n = -1", "self.n = self.told()", "a = 5", "self.n *= 2",
                    "self.rows.pop()", "return True", "for a in b: pass", "self.n = a - b", "self.rows[0] = 1"):
            self.assertFalse(is_row_of_exit(statement(row)), row)
        for row in ("if not (kind is None or self.a is not None): self.n += 1", "self.n = (a, self.n - 1)", "return",
                    "self.rows.append(a)", "self.rows.clear()", "box = self.box", "pass", "return False"):
            self.assertTrue(is_row_of_exit(statement(row)), row)

    def test_builtins(self):
        for name, node in nodes(ast.Name):
            if node.id in dir(builtins):
                self.assertTrue(node.id in BUILTINS and isinstance(node.ctx, ast.Load), (name, node.lineno, node.id))
        for name, node in nodes((ast.arg, ast.FunctionDef, ast.ClassDef)):
            self.assertNotIn(getattr(node, "arg", getattr(node, "name", None)), dir(builtins), name)

    def test_names_of_imports_and_classes_mean_one_thing(self):
        for name, tree in trees():
            imports = [alias.name for node in tree.body if isinstance(node, ast.ImportFrom) for alias in node.names]
            bound = imports + [node.name for node in tree.body if isinstance(node, (ast.FunctionDef, ast.ClassDef))]
            self.assertEqual(len(bound), len(set(bound)), name)
            names = [node for node in ast.walk(tree) if isinstance(node, ast.Name)]
            others = [node.arg for node in ast.walk(tree) if isinstance(node, ast.arg)]
            others += [node.id for node in names if isinstance(node.ctx, ast.Store)]
            self.assertEqual(set(bound) & set(others), set(), name)
            self.assertEqual(set(imports) - {node.id for node in names}, set(), name)

    def test_no_two_files_import_from_each_other(self):
        needs = {path.stem: [] for path in PATHS}
        for name, node in nodes(ast.ImportFrom):
            if node.module not in LIBRARY:
                needs[name.removesuffix(".py")].append(node.module.removeprefix("ledlines."))
        while needs:
            ready = [name for name, files in needs.items() if not set(files) & set(needs)]
            self.assertNotEqual(ready, [], needs)
            for name in ready:
                del needs[name]

    def test_names_of_methods_are_no_names_of_attributes(self):
        bodies = [node for _, kind in nodes(ast.ClassDef) for node in kind.body]
        methods = {node.name for node in bodies if isinstance(node, ast.FunctionDef)}
        stored = {node.attr for _, node in nodes(ast.Attribute) if isinstance(node.ctx, ast.Store)}
        self.assertEqual(methods & stored, set())

    def test_methods(self):
        own = {node.name for _, node in nodes(ast.FunctionDef)} | {"__init__"}
        for name, node in nodes(ast.Call):
            if isinstance(node.func, ast.Attribute):
                self.assertIn(node.func.attr, METHODS | own, (name, node.lineno))


if __name__ == "__main__":
    unittest.main()
