"""The rules of the language that can be seen in the files of the package, one by one."""

import ast
import builtins
import os
import unittest

ROOT = os.path.dirname(os.path.dirname(os.path.abspath(__file__)))
PACKAGE = "carryturns"

NODES = (
    ast.Module, ast.Expr, ast.Constant, ast.ImportFrom, ast.alias, ast.Assign, ast.AugAssign, ast.Name, ast.Load,
    ast.Store, ast.FunctionDef, ast.ClassDef, ast.arguments, ast.arg, ast.Return, ast.If, ast.While, ast.For,
    ast.Break, ast.Continue, ast.Pass, ast.Raise, ast.Call, ast.keyword, ast.Attribute, ast.Subscript, ast.Slice,
    ast.Tuple, ast.List, ast.Dict, ast.ListComp, ast.DictComp, ast.comprehension, ast.IfExp, ast.Starred,
    ast.BoolOp, ast.And, ast.Or, ast.UnaryOp, ast.Not, ast.USub, ast.BinOp, ast.Add, ast.Sub, ast.Mult,
    ast.FloorDiv, ast.Mod, ast.Pow, ast.Compare, ast.Eq, ast.NotEq, ast.Lt, ast.LtE, ast.Gt, ast.GtE, ast.In,
    ast.NotIn, ast.Is, ast.IsNot, ast.JoinedStr, ast.FormattedValue,
)
BUILTINS = set(
    "len range enumerate zip min max sum abs sorted reversed int str bool list tuple dict isinstance ord repr any all"
    " divmod iter next property staticmethod classmethod ValueError TypeError KeyError IndexError LookupError"
    " ArithmeticError OverflowError RuntimeError NotImplemented".split()
)
METHODS = set(
    "append clear copy count endswith extend find get index insert items join keys pop remove replace reverse"
    " setdefault split startswith strip update values".split()
)
DOUBLE = set("__init__ __eq__ __repr__ __str__ __len__ __enter__ __exit__ __iter__ __contains__".split())
NOWHERE = set("register mro elements open input law version_info with_traceback add_note type".split())
LIBRARY = {"math": set("gcd lcm isqrt comb perm factorial".split())}


def files_of_package():
    """The paths of all files of the package, without what Python itself puts beside them."""
    found = []
    for folder, folders, names in os.walk(os.path.join(ROOT, PACKAGE)):
        folders[:] = sorted(name for name in folders if name != "__pycache__")
        found += [os.path.join(folder, name) for name in sorted(names)]
    return found


def module_of(path):
    """The name of the module of a file."""
    parts = os.path.relpath(path, ROOT)[:-3].split(os.sep)
    return ".".join(parts[:-1] if parts[-1] == "__init__" else parts)


def bound_in(function):
    """The parameters and the local variables of a function."""
    names = [node.arg for node in ast.walk(function) if isinstance(node, ast.arg)]
    return names + [
        node.id for node in ast.walk(function) if isinstance(node, ast.Name) and isinstance(node.ctx, ast.Store)
    ]


class Language(unittest.TestCase):
    def setUp(self):
        self.texts = {}
        for path in files_of_package():
            self.assertTrue(path.endswith(".py"), path)
            with open(path, "rb") as file:
                self.texts[module_of(path)] = file.read().decode("ascii")
        self.trees = {module: ast.parse(text) for module, text in self.texts.items()}
        self.own = {module: self.defined(tree) for module, tree in self.trees.items()}

    def defined(self, tree):
        found = []
        for node in tree.body:
            if isinstance(node, (ast.FunctionDef, ast.ClassDef)):
                found.append(node.name)
            elif isinstance(node, ast.Assign):
                found.append(node.targets[0].id)
        return found

    def nodes(self, *kinds):
        for module, tree in self.trees.items():
            for node in ast.walk(tree):
                if isinstance(node, kinds):
                    yield module, node

    def test_files(self):
        self.assertTrue(len(self.texts) <= 100)
        for path in files_of_package():
            name = os.path.basename(path)
            self.assertEqual(name, name.lower())
            self.assertIn(os.path.join(os.path.dirname(path), "__init__.py"), files_of_package())
            self.assertFalse(os.path.isdir(path[:-3]), path)

    def test_sizes_and_characters(self):
        for module, text in self.texts.items():
            lines = text.split("\n")
            self.assertTrue(len(lines) <= 399, module)
            for line in lines:
                self.assertTrue(len(line) <= 120, (module, line))
                self.assertTrue(all(" " <= sign <= "~" for sign in line), (module, line))
        for module, node in self.nodes(ast.FunctionDef):
            self.assertTrue(node.end_lineno - node.lineno < 40, (module, node.name))

    def test_kinds_of_code(self):
        for module, node in self.nodes(ast.AST):
            self.assertTrue(isinstance(node, NODES), (module, getattr(node, "lineno", 0), node))
        for module, node in self.nodes(ast.Constant):
            self.assertIn(type(node.value), (int, str, bool, type(None)), module)

    def test_module_level(self):
        for module, tree in self.trees.items():
            self.assertTrue(ast.get_docstring(tree), module)
            for node in tree.body[1:]:
                kinds = (ast.ImportFrom, ast.FunctionDef, ast.ClassDef, ast.Assign)
                self.assertTrue(isinstance(node, kinds), (module, node.lineno))

    def test_imports(self):
        for module, tree in self.trees.items():
            imports = [node for node in tree.body if isinstance(node, ast.ImportFrom)]
            self.assertEqual(tree.body[1:len(imports) + 1], imports, module)
            for node in imports:
                for name in node.names:
                    self.assertIsNone(name.asname)
                    known = LIBRARY[node.module] if node.module in LIBRARY else self.own[node.module]
                    self.assertIn(name.name, known)

    def test_no_circle_of_imports(self):
        above = {
            module: {node.module for node in tree.body if isinstance(node, ast.ImportFrom)} & set(self.trees)
            for module, tree in self.trees.items()
        }
        while above:
            free = [module for module in above if not above[module] & set(above)]
            self.assertTrue(free, above)
            above = {module: above[module] for module in above if module not in free}

    def test_names_are_bound_once(self):
        for module, tree in self.trees.items():
            names = self.own[module] + [
                name.name for node in tree.body if isinstance(node, ast.ImportFrom) for name in node.names
            ]
            self.assertEqual(sorted(names), sorted(set(names)), module)

    def test_names_of_variables(self):
        for module, tree in self.trees.items():
            taken = {name.name for node in tree.body if isinstance(node, ast.ImportFrom) for name in node.names}
            taken |= {node.name for node in tree.body if isinstance(node, ast.ClassDef)}
            for node in ast.walk(tree):
                if isinstance(node, ast.FunctionDef):
                    for name in bound_in(node):
                        self.assertNotIn(name, taken, (module, node.name))
                        self.assertFalse(hasattr(builtins, name), (module, node.name, name))
                        self.assertFalse(name.startswith("__"), (module, node.name, name))

    def test_names_that_are_not_used(self):
        for module, node in self.nodes(ast.Name, ast.Attribute, ast.FunctionDef, ast.ClassDef, ast.arg):
            name = getattr(node, "id", None) or getattr(node, "attr", None) or getattr(node, "name", None)
            name = name or node.arg
            self.assertNotIn(name, NOWHERE, module)
            self.assertTrue(not name.startswith("__") or name in DOUBLE, (module, name))

    def test_builtins(self):
        for module, node in self.nodes(ast.Name):
            if hasattr(builtins, node.id):
                self.assertIn(node.id, BUILTINS, (module, node.lineno))

    def test_methods(self):
        own = {node.name for _, node in self.nodes(ast.FunctionDef)}
        for module, node in self.nodes(ast.Call):
            if isinstance(node.func, ast.Attribute):
                self.assertIn(node.func.attr, own | METHODS, (module, node.lineno))

    def test_numbers_and_strings(self):
        for module, node in self.nodes(ast.BinOp):
            if isinstance(node.op, ast.Pow):
                self.assertTrue(isinstance(node.right, ast.Constant) and 0 <= node.right.value <= 64, module)
        for module, node in self.nodes(ast.Constant):
            if isinstance(node.value, str):
                self.assertNotIn("%", node.value, module)

    def test_errors_are_made_where_they_are_raised(self):
        for module, node in self.nodes(ast.Raise):
            self.assertTrue(isinstance(node.exc, ast.Call) and isinstance(node.exc.func, ast.Name), module)
            self.assertIn(node.exc.func.id, self.own["carryturns.errors"], module)

    def test_is(self):
        for module, node in self.nodes(ast.Compare):
            if any(isinstance(sign, (ast.Is, ast.IsNot)) for sign in node.ops):
                self.assertTrue(isinstance(node.comparators[0], ast.Constant), module)
                self.assertIn(node.comparators[0].value, (None, True, False), module)


if __name__ == "__main__":
    unittest.main()
