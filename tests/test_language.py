"""The rules of the language that can be seen in the files of the package, one by one."""

import ast
import builtins
import os
import re
import unittest

ROOT = os.path.dirname(os.path.dirname(os.path.abspath(__file__)))
PACKAGE = "carryturns"

NODES = (
    ast.Module, ast.Expr, ast.Constant, ast.ImportFrom, ast.alias, ast.Assign, ast.AugAssign, ast.Name, ast.Load,
    ast.Store, ast.FunctionDef, ast.ClassDef, ast.arguments, ast.arg, ast.Return, ast.If, ast.While, ast.For,
    ast.Break, ast.Continue, ast.Pass, ast.Raise, ast.Call, ast.keyword, ast.Attribute, ast.Subscript, ast.Slice,
    ast.Tuple, ast.List, ast.Dict, ast.ListComp, ast.DictComp, ast.comprehension, ast.IfExp, ast.Starred,
    ast.BoolOp, ast.And, ast.Or, ast.UnaryOp, ast.Not, ast.USub, ast.BinOp, ast.Add, ast.Sub, ast.Mult,
    ast.FloorDiv, ast.Mod, ast.Pow, ast.LShift, ast.Compare, ast.Eq, ast.NotEq, ast.Lt, ast.LtE, ast.Gt, ast.GtE, ast.In,
    ast.NotIn, ast.Is, ast.IsNot, ast.JoinedStr, ast.FormattedValue, ast.Yield, ast.With,
    ast.withitem,
)
BUILTINS = set(
    "len range enumerate zip min max sum abs sorted reversed int str bool list tuple dict isinstance ord repr any all"
    " set divmod iter next property staticmethod classmethod ValueError TypeError KeyError IndexError LookupError"
    " ArithmeticError OverflowError RuntimeError NotImplemented".split()
)
METHODS = set(
    "append clear copy count endswith extend find get index insert items join keys pop remove replace reverse"
    " setdefault split startswith strip update values partition removeprefix zfill bit_length".split()
)
DOUBLE = set("__init__ __eq__ __repr__ __str__ __len__ __enter__ __exit__ __iter__ __contains__".split())
NOWHERE = set("register mro elements open input law version_info with_traceback add_note type".split())
LIBRARY = {"math": set("gcd lcm isqrt comb perm factorial".split())}


def files_of_package():
    """The paths of all files of the package, without what Python itself puts beside them."""
    found = []
    for folder, folders, names in os.walk(os.path.join(ROOT, PACKAGE)):
        folders[:] = sorted(name for name in folders if name != "__pycache__")
        found += [os.path.join(folder, name) for name in sorted(names)]
    return found


def module_of(path):
    """The name of the module of a file."""
    parts = os.path.relpath(path, ROOT)[:-3].split(os.sep)
    return ".".join(parts[:-1] if parts[-1] == "__init__" else parts)


def bound_in(function):
    """The parameters and the local variables of a function."""
    names = [node.arg for node in ast.walk(function) if isinstance(node, ast.arg)]
    return names + [
        node.id for node in ast.walk(function) if isinstance(node, ast.Name) and isinstance(node.ctx, ast.Store)
    ]


def place_of(node):
    """The name, with its attributes, of which a node is the value or an item, or None."""
    if isinstance(node, ast.Name):
        return node.id
    if isinstance(node, ast.Attribute):
        below = place_of(node.value)
        return below and f"{below}.{node.attr}"
    if isinstance(node, ast.Subscript):
        return place_of(node.value)
    return None


def places_in(node):
    """The places that a value can stand for: a place, an item of it, or one of a choice."""
    if isinstance(node, ast.IfExp):
        return places_in(node.body) | places_in(node.orelse)
    if isinstance(node, ast.BoolOp):
        return {place for value in node.values for place in places_in(value)}
    place = place_of(node)
    return {place} if place else set()


def walked_in(node):
    """The places that a loop over a value goes through."""
    if isinstance(node, ast.Call):
        name = getattr(node.func, "id", None)
        if name in ("zip", "enumerate", "reversed"):
            return {place for given in node.args for place in walked_in(given)}
        if getattr(node.func, "attr", None) in ("items", "keys", "values"):
            return places_in(node.func.value)
        return set()
    # A slice is a copy.
    if isinstance(node, ast.Subscript) and isinstance(node.slice, ast.Slice):
        return set()
    return places_in(node)


CHANGING = ("append", "clear", "extend", "insert", "pop", "remove", "reverse", "setdefault", "update", "add", "discard")


def places_changed(row):
    """The places that a row of a loop changes."""
    found = set()
    for node in ast.walk(row):
        if isinstance(node, ast.Call) and getattr(node.func, "attr", None) in CHANGING:
            found.add(place_of(node.func.value))
        if isinstance(node, (ast.Subscript, ast.Attribute)) and isinstance(node.ctx, (ast.Store, ast.Del)):
            found.add(place_of(node.value if isinstance(node, ast.Subscript) else node))
        if isinstance(node, ast.AugAssign) and not isinstance(node.value, ast.Constant):
            found.add(place_of(node.target))
    return found - {None}


def names_together(function):
    """The list of the pairs of places of which one is, somewhere in the function, given to the other one."""
    pairs = []
    for node in ast.walk(function):
        if isinstance(node, ast.Assign):
            pairs += [(place_of(target), place) for target in node.targets for place in places_in(node.value)]
    return pairs


def together(pairs, places):
    """The places, and all that can be the same as one of them, or an item of it."""
    found = set(places)
    while True:
        more = {place for pair in pairs if set(pair) & found for place in pair if place} - found
        if not more:
            return found
        found |= more


class Language(unittest.TestCase):
    def setUp(self):
        self.texts = {}
        for path in files_of_package():
            self.assertTrue(path.endswith(".py"), path)
            with open(path, "rb") as file:
                self.texts[module_of(path)] = file.read().decode("ascii")
        self.trees = {module: ast.parse(text) for module, text in self.texts.items()}
        self.own = {module: self.defined(tree) for module, tree in self.trees.items()}

    def defined(self, tree):
        found = []
        for node in tree.body:
            if isinstance(node, (ast.FunctionDef, ast.ClassDef)):
                found.append(node.name)
            elif isinstance(node, ast.Assign):
                found.append(node.targets[0].id)
        return found

    def nodes(self, *kinds):
        for module, tree in self.trees.items():
            for node in ast.walk(tree):
                if isinstance(node, kinds):
                    yield module, node

    def test_files(self):
        self.assertTrue(len(self.texts) <= 100)
        for path in files_of_package():
            name = os.path.basename(path)
            self.assertEqual(name, name.lower())
            self.assertIn(os.path.join(os.path.dirname(path), "__init__.py"), files_of_package())
            self.assertFalse(os.path.isdir(path[:-3]), path)

    def test_sizes_and_characters(self):
        for module, text in self.texts.items():
            lines = text.split("\n")
            self.assertTrue(len(lines) <= 399, module)
            for line in lines:
                self.assertTrue(len(line) <= 120, (module, line))
                self.assertTrue(all(" " <= sign <= "~" for sign in line), (module, line))
        for module, node in self.nodes(ast.FunctionDef):
            self.assertTrue(node.end_lineno - node.lineno < 40, (module, node.name))

    def test_kinds_of_code(self):
        for module, node in self.nodes(ast.AST):
            self.assertTrue(isinstance(node, NODES), (module, getattr(node, "lineno", 0), node))
        for module, node in self.nodes(ast.Constant):
            self.assertIn(type(node.value), (int, str, bool, type(None)), module)

    def test_module_level(self):
        for module, tree in self.trees.items():
            self.assertTrue(ast.get_docstring(tree), module)
            for node in tree.body[1:]:
                kinds = (ast.ImportFrom, ast.FunctionDef, ast.ClassDef, ast.Assign)
                self.assertTrue(isinstance(node, kinds), (module, node.lineno))

    def test_imports(self):
        for module, tree in self.trees.items():
            imports = [node for node in tree.body if isinstance(node, ast.ImportFrom)]
            self.assertEqual(tree.body[1:len(imports) + 1], imports, module)
            for node in imports:
                for name in node.names:
                    self.assertIsNone(name.asname)
                    known = LIBRARY[node.module] if node.module in LIBRARY else self.own[node.module]
                    self.assertIn(name.name, known)

    def test_no_circle_of_imports(self):
        above = {
            module: {node.module for node in tree.body if isinstance(node, ast.ImportFrom)} & set(self.trees)
            for module, tree in self.trees.items()
        }
        while above:
            free = [module for module in above if not above[module] & set(above)]
            self.assertTrue(free, above)
            above = {module: above[module] for module in above if module not in free}

    def test_names_are_bound_once(self):
        for module, tree in self.trees.items():
            names = self.own[module] + [
                name.name for node in tree.body if isinstance(node, ast.ImportFrom) for name in node.names
            ]
            self.assertEqual(sorted(names), sorted(set(names)), module)

    def test_names_of_variables(self):
        for module, tree in self.trees.items():
            taken = {name.name for node in tree.body if isinstance(node, ast.ImportFrom) for name in node.names}
            taken |= {node.name for node in tree.body if isinstance(node, ast.ClassDef)}
            for node in ast.walk(tree):
                if isinstance(node, ast.FunctionDef):
                    for name in bound_in(node):
                        self.assertNotIn(name, taken, (module, node.name))
                        self.assertFalse(hasattr(builtins, name), (module, node.name, name))
                        self.assertFalse(name.startswith("__"), (module, node.name, name))

    def test_names_that_are_not_used(self):
        for module, node in self.nodes(ast.Name, ast.Attribute, ast.FunctionDef, ast.ClassDef, ast.arg):
            name = getattr(node, "id", None) or getattr(node, "attr", None) or getattr(node, "name", None)
            name = name or node.arg
            self.assertNotIn(name, NOWHERE, module)
            self.assertTrue(not name.startswith("__") or name in DOUBLE, (module, name))

    def test_builtins(self):
        for module, node in self.nodes(ast.Name):
            if hasattr(builtins, node.id):
                self.assertIn(node.id, BUILTINS, (module, node.lineno))

    def test_methods(self):
        own = {node.name for _, node in self.nodes(ast.FunctionDef)}
        for module, node in self.nodes(ast.Call):
            if isinstance(node.func, ast.Attribute):
                self.assertIn(node.func.attr, own | METHODS, (module, node.lineno))

    def methods_with(self, decorator):
        """The names of the methods under a decorator, or of those without one."""
        found = set()
        for _, tree in self.nodes(ast.ClassDef):
            for node in tree.body:
                if isinstance(node, ast.FunctionDef) and not node.name.startswith("__"):
                    names = [name.id for name in node.decorator_list]
                    if names == ([decorator] if decorator else []):
                        found.add(node.name)
        return found

    def stored_attributes(self):
        """The names of all attributes that are assigned."""
        return {node.attr for _, node in self.nodes(ast.Attribute) if isinstance(node.ctx, ast.Store)}

    def test_names_of_properties_and_methods(self):
        plain, stored = self.methods_with(None), self.stored_attributes()
        properties, of_class = self.methods_with("property"), self.methods_with("classmethod")
        self.assertFalse(properties & plain)
        self.assertFalse(properties & stored)
        self.assertFalse(plain & stored)
        self.assertFalse(of_class & (plain | properties | stored))
        for kind in (str, int, list, dict, set, bytes, tuple):
            self.assertFalse(properties & set(dir(kind)), kind)
            self.assertFalse(of_class & set(dir(kind)), kind)
        read = {node.attr for _, node in self.nodes(ast.Attribute) if isinstance(node.ctx, ast.Load)}
        self.assertEqual(read - plain - stored - properties - of_class - METHODS, set())

    def test_attributes_are_assigned_through_local_names(self):
        for module, node in self.nodes(ast.Attribute):
            if isinstance(node.ctx, ast.Store):
                self.assertIsInstance(node.value, ast.Name, module)
                self.assertNotIn(node.value.id, self.own[module])

    def test_properties_change_nothing(self):
        for module, tree in self.nodes(ast.FunctionDef):
            if [name.id for name in tree.decorator_list] == ["property"]:
                self.assertEqual(len(tree.args.args), 1)
                for node in ast.walk(tree):
                    self.assertNotIsInstance(node, (ast.Assign, ast.AugAssign, ast.For, ast.While), module)

    def test_decorators(self):
        for module, tree in self.nodes(ast.FunctionDef, ast.ClassDef):
            for node in tree.decorator_list:
                self.assertIn(node.id, ("property", "classmethod"), module)
                self.assertIsInstance(tree, ast.FunctionDef)

    def test_double_underscore_methods(self):
        for module, tree in self.nodes(ast.FunctionDef):
            returns = [node.value for node in ast.walk(tree) if isinstance(node, ast.Return)]
            if tree.name == "__init__":
                self.assertEqual(returns, [], module)
            if tree.name == "__len__":
                self.assertTrue(all(isinstance(value, ast.Call) and value.func.id == "len" for value in returns), module)
            if tree.name == "__str__":
                self.assertTrue(all(isinstance(value, ast.JoinedStr) for value in returns), module)
            if tree.name == "__iter__":
                self.assertTrue(all(isinstance(value, ast.Call) and value.func.id == "iter" for value in returns), module)
            if tree.name in ("__len__", "__str__", "__eq__", "__contains__"):
                for node in ast.walk(tree):
                    self.assertNotIsInstance(node, (ast.Assign, ast.AugAssign, ast.For, ast.While), module)

    def test_generators_are_iterated_at_once(self):
        names = {
            tree.name for _, tree in self.nodes(ast.FunctionDef)
            if any(isinstance(node, ast.Yield) for node in ast.walk(tree))
        }
        counts = [tree.name for _, tree in self.nodes(ast.FunctionDef) if tree.name in names]
        self.assertEqual(len(counts), len(names))
        right = set()
        for _, node in self.nodes(ast.For, ast.comprehension):
            right.add(node.iter)
        for _, node in self.nodes(ast.Call):
            if isinstance(node.func, ast.Name) and node.func.id in ("list", "tuple", "sum", "any", "all", "sorted"):
                right.update(node.args[:1])
        for module, node in self.nodes(ast.Call):
            called = getattr(node.func, "id", None) or getattr(node.func, "attr", None)
            if called in names:
                self.assertIn(node, right, (module, node.lineno))
                for given in node.args:
                    self.assertIsInstance(given, (ast.Name, ast.Constant, ast.Attribute), (module, node.lineno))

    def test_views_are_iterated_at_once(self):
        kinds = ("range", "zip", "enumerate", "reversed")
        right = set()
        for _, node in self.nodes(ast.For, ast.comprehension):
            right.add(node.iter)
        for _, node in self.nodes(ast.Call):
            if isinstance(node.func, ast.Name) and node.func.id in ("list", "tuple", "dict", "sorted", "reversed", "sum"):
                right.update(node.args[:1])
        for module, node in self.nodes(ast.Call):
            if isinstance(node.func, ast.Name) and node.func.id in kinds:
                self.assertIn(node, right, (module, node.lineno))

    def test_stars_in_calls(self):
        own = {node.name for _, node in self.nodes(ast.FunctionDef, ast.ClassDef)} | {"max", "min", "zip"}
        for module, node in self.nodes(ast.Call):
            for given in node.args:
                if isinstance(given, ast.Starred):
                    self.assertIn(getattr(node.func, "id", None) or node.func.attr, own, (module, node.lineno))
                    self.assertIsInstance(given.value, (ast.Name, ast.Attribute), (module, node.lineno))

    def test_names_from_the_library_are_only_called(self):
        for module, tree in self.trees.items():
            names = {
                name.name for node in tree.body if isinstance(node, ast.ImportFrom) and node.module in LIBRARY
                for name in node.names
            }
            called = [node.func for node in ast.walk(tree) if isinstance(node, ast.Call)]
            for node in ast.walk(tree):
                if isinstance(node, ast.Name) and node.id in names:
                    self.assertIn(node, called, (module, node.lineno))

    def test_words_that_do_not_occur(self):
        words = set(
            "type typing typing_extensions enum Enum IntEnum StrEnum Flag IntFlag Generic Protocol ABC ABCMeta namedtuple"
            " NamedTuple TypedDict TYPE_CHECKING abstractmethod".split()
        )
        for module, text in self.texts.items():
            for row in text.split("\n"):
                self.assertFalse(words & set(re.findall(r"\w+", row)), (module, row))
            for word in ("dataclass", "overload", "contextmanager", "_wall", "_WallAttr"):
                self.assertNotIn(word, text, module)

    def test_what_is_iterated_over_is_not_modified(self):
        for module, function in self.nodes(ast.FunctionDef):
            groups = names_together(function)
            for loop in ast.walk(function):
                if isinstance(loop, (ast.For, ast.comprehension)):
                    rows = loop.body if isinstance(loop, ast.For) else []
                    changed = {place for row in rows for place in places_changed(row)}
                    walked = walked_in(loop.iter)
                    self.assertFalse(together(groups, walked) & together(groups, changed), (module, loop.iter.lineno))

    def test_what_is_modified_does_not_stand_in_the_head_of_the_loop(self):
        for module, function in self.nodes(ast.FunctionDef):
            groups = names_together(function)
            for loop in ast.walk(function):
                if isinstance(loop, ast.For):
                    head = {place_of(node) for node in ast.walk(loop.iter)} - {None}
                    changed = {place for row in loop.body for place in places_changed(row)}
                    self.assertFalse(together(groups, head) & changed, (module, loop.lineno))

    def test_what_is_added_is_not_what_it_is_added_to(self):
        for module, function in self.nodes(ast.FunctionDef):
            groups = names_together(function)
            for node in ast.walk(function):
                changed, added = set(), set()
                if isinstance(node, ast.AugAssign) and isinstance(node.target, (ast.Subscript, ast.Attribute)):
                    changed, added = {place_of(node.target)}, places_in(node.value)
                if isinstance(node, ast.Call) and getattr(node.func, "attr", None) in ("extend", "update"):
                    changed, added = {place_of(node.func.value)}, places_in(node.args[0])
                self.assertFalse(together(groups, changed) & together(groups, added), (module, node))

    def test_sets_are_sorted_at_once_or_stored_once(self):
        right = set()
        for _, node in self.nodes(ast.Call):
            if isinstance(node.func, ast.Name) and node.func.id in ("sorted", "len"):
                right.update(node.args[:1])
        for module, node in self.nodes(ast.Call):
            if isinstance(node.func, ast.Name) and node.func.id == "set":
                self.assertIn(node, right, (module, node.lineno))
        self.assertEqual(list(self.nodes(ast.Set, ast.SetComp)), [])

    def test_numbers_and_strings(self):
        for module, node in self.nodes(ast.BinOp):
            if isinstance(node.op, ast.Pow):
                self.assertTrue(isinstance(node.right, ast.Constant) and 0 <= node.right.value <= 64, module)
        for module, node in self.nodes(ast.Constant):
            if isinstance(node.value, str):
                self.assertNotIn("%", node.value, module)

    def test_errors_are_made_where_they_are_raised(self):
        for module, node in self.nodes(ast.Raise):
            self.assertTrue(isinstance(node.exc, ast.Call) and isinstance(node.exc.func, ast.Name), module)
            self.assertIn(node.exc.func.id, self.own["carryturns.errors"], module)

    def test_is(self):
        for module, node in self.nodes(ast.Compare):
            if any(isinstance(sign, (ast.Is, ast.IsNot)) for sign in node.ops):
                self.assertTrue(isinstance(node.comparators[0], ast.Constant), module)
                self.assertIn(node.comparators[0].value, (None, True, False), module)


if __name__ == "__main__":
    unittest.main()
