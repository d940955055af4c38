"""The rules of the language subset that can be seen in the code without much ado."""

import ast
import builtins
import os
import re
import unittest
import warnings

TOP = os.path.dirname(os.path.dirname(os.path.abspath(__file__)))
FOLDER = os.path.join(TOP, "worthstead")
LIBRARY = {
    "math": {"gcd", "lcm", "isqrt", "comb", "perm", "factorial"},
    "heapq": {"heappush", "heappop", "heapify", "heapreplace", "heappushpop"},
    "collections": {"defaultdict"},
}
BUILTINS = set(
    "len range enumerate zip min max sum abs sorted reversed int str bool bytes list tuple dict set isinstance ord "
    "repr any all divmod iter next Exception ValueError TypeError KeyError IndexError LookupError ZeroDivisionError "
    "ArithmeticError OverflowError RuntimeError NotImplementedError AttributeError StopIteration NotImplemented "
    "property classmethod staticmethod super True False None".split()
)
METHODS = set(
    "append clear copy count endswith extend find get index insert isalnum isalpha isdigit islower isspace isupper "
    "items join keys ljust lower lstrip partition pop remove replace reverse rfind rjust rpartition rsplit rstrip "
    "setdefault split splitlines startswith strip update upper values zfill bit_length add discard".split()
)
DUNDERS = set(
    "__init__ __eq__ __repr__ __str__ __len__ __call__ __iter__ __add__ __sub__ __mul__ __and__ __neg__ __abs__ "
    "__bool__ __contains__ __getitem__".split()
)
WORDS = re.compile(
    r"\b(type|typing|enum|Enum|IntEnum|Flag|Generic|Protocol|ABC|namedtuple|NamedTuple|register|mro|elements|open|input"
    r"|law|version_info|eval|exec|exit|globals|vars|help|id|dir|compile|sys|os)\b|dataclass|overload|contextmanager"
)
LITERALS = (ast.List, ast.Tuple, ast.Dict, ast.Set, ast.ListComp, ast.Constant)


def paths():
    found = []
    for folder, _, names in os.walk(FOLDER):
        found.extend(os.path.join(folder, name) for name in names if name.endswith(".py"))
    return sorted(found)


def module_of(path):
    name = os.path.relpath(path, TOP)[:-3].replace(os.sep, ".")
    return name[: -len(".__init__")] if name.endswith(".__init__") else name


def bound_names(tree):
    names = []
    for node in tree.body:
        if isinstance(node, (ast.FunctionDef, ast.ClassDef)):
            names.append(node.name)
        elif isinstance(node, ast.Assign):
            names.extend(target.id for target in node.targets)
        elif isinstance(node, ast.ImportFrom):
            names.extend(alias.name for alias in node.names)
    return names


def defined_names(tree):
    return [name for name in bound_names(tree) if name not in imported_names(tree)]


def imported_names(tree):
    return [alias.name for node in tree.body if isinstance(node, ast.ImportFrom) for alias in node.names]


class LanguageTest(unittest.TestCase):
    @classmethod
    def setUpClass(cls):
        cls.sources = {}
        for path in paths():
            with open(path, encoding="utf-8", newline="") as file:
                cls.sources[module_of(path)] = file.read()
        cls.trees = {name: ast.parse(source) for name, source in cls.sources.items()}

    def each(self, *kinds):
        for name, tree in self.trees.items():
            for node in ast.walk(tree):
                if isinstance(node, kinds):
                    yield f"{name}:{getattr(node, 'lineno', 0)}", node

    def test_folder(self):
        for folder, folders, names in os.walk(FOLDER):
            if "__pycache__" in folders:
                folders.remove("__pycache__")
            self.assertIn("__init__.py", names)
            for name in names:
                self.assertRegex(name, r"^[a-z0-9_]+\.py$")
                self.assertNotIn(name[:-3], folders)
                self.assertNotIn(name[:-3], dir(builtins))
        self.assertLessEqual(len(self.sources), 100)

    def test_characters_and_lines(self):
        for name, source in self.sources.items():
            self.assertTrue(all(character == "\n" or " " <= character <= "~" for character in source), name)
            lines = source.split("\n")
            self.assertLessEqual(len(lines), 400, name)
            for number, line in enumerate(lines):
                self.assertLessEqual(len(line), 120, f"{name}:{number + 1}")

    def test_no_warnings(self):
        with warnings.catch_warnings():
            warnings.simplefilter("error")
            for name, source in self.sources.items():
                compile(source, name, "exec")

    def test_functions_are_short(self):
        for spot, node in self.each(ast.FunctionDef):
            self.assertLessEqual(node.end_lineno - node.lineno + 1, 40, spot)
            self.assertIsNotNone(ast.get_docstring(node) if not node.name.startswith("__") else "", spot)

    def test_imports(self):
        for name, tree in self.trees.items():
            self.assertFalse([node for node in ast.walk(tree) if isinstance(node, ast.Import)], name)
            for node in ast.walk(tree):
                if isinstance(node, ast.ImportFrom):
                    self.assertIn(node, tree.body)
                    self.assertEqual(node.level, 0, name)
                    known = LIBRARY.get(node.module) or defined_names(self.trees[node.module])
                    for alias in node.names:
                        self.assertIsNone(alias.asname, name)
                        self.assertIn(alias.name, known, name)
            used = {node.id for node in ast.walk(tree) if isinstance(node, ast.Name)}
            for imported in imported_names(tree):
                self.assertIn(imported, used, name)

    def test_no_circles(self):
        links = {}
        for name, tree in self.trees.items():
            targets = [node.module for node in tree.body if isinstance(node, ast.ImportFrom)]
            links[name] = [target for target in targets if target.startswith("worthstead")]
        done = set()
        while len(done) < len(links):
            free = [name for name in links if name not in done and all(link in done for link in links[name])]
            self.assertTrue(free, sorted(set(links) - done))
            done.update(free)

    def test_names_are_bound_once(self):
        for name, tree in self.trees.items():
            names = bound_names(tree)
            self.assertEqual(len(names), len(set(names)), name)
            barred = set(imported_names(tree)) | {node.name for node in tree.body if isinstance(node, ast.ClassDef)}
            for node in ast.walk(tree):
                if isinstance(node, ast.Name) and isinstance(node.ctx, ast.Store):
                    self.assertNotIn(node.id, barred, f"{name}:{node.lineno}")
                    self.assertNotIn(node.id, dir(builtins), f"{name}:{node.lineno}")
                if isinstance(node, ast.arg):
                    self.assertNotIn(node.arg, barred, f"{name}:{node.lineno}")
                    self.assertNotIn(node.arg, dir(builtins), f"{name}:{node.lineno}")

    def test_builtins(self):
        for spot, node in self.each(ast.Name):
            if node.id in dir(builtins):
                self.assertIn(node.id, BUILTINS, spot)

    def test_words(self):
        for name, source in self.sources.items():
            tree = ast.parse(source)
            for node in ast.walk(tree):
                if isinstance(node, (ast.FunctionDef, ast.ClassDef, ast.Module)) and ast.get_docstring(node):
                    node.body = node.body[1:] or [ast.Pass()]
            text = ast.unparse(tree)
            self.assertIsNone(WORDS.search(text), f"{name}: {WORDS.search(text)}")
            self.assertNotIn("Meta", self.sources[name])
            self.assertNotIn("(type)", self.sources[name])

    def test_strings(self):
        for spot, node in self.each(ast.Constant):
            if isinstance(node.value, str):
                self.assertNotIn("%", node.value, spot)
                self.assertFalse(node.value.endswith("._"), spot)
            self.assertNotIsInstance(node.value, (float, complex), spot)

    def test_statements(self):
        barred = (
            ast.Global, ast.AsyncFunctionDef, ast.Lambda, ast.With, ast.Yield, ast.YieldFrom, ast.Match,
            ast.AnnAssign, ast.NamedExpr, ast.Div, ast.MatMult, ast.Await,
        )
        for spot, node in self.each(*barred):
            self.fail(f"{spot}: {node}")

    def test_caught_errors(self):
        own = {node.name for _, node in self.each(ast.ClassDef)} | {"ZeroDivisionError"}
        for spot, node in self.each(ast.Try):
            self.assertFalse(node.orelse or node.finalbody, spot)
            for handler in node.handlers:
                self.assertIn(handler.type.id, own, spot)
                names = {"e"} if handler.name else set()
                self.assertEqual({handler.name} - {None}, names, spot)
                # What is caught is asked for its own attributes alone.
                parents = {child: row for row in ast.walk(handler) for child in ast.iter_child_nodes(row)}
                for row in ast.walk(handler):
                    if isinstance(row, ast.Name) and row.id == "e":
                        self.assertIsInstance(parents[row], ast.Attribute, spot)
        for spot, node in self.each(ast.Raise):
            self.assertTrue(node.cause is None and isinstance(node.exc, ast.Call), spot)
            self.assertIsInstance(node.exc.func, ast.Name, spot)

    def test_module_level(self):
        allowed = (ast.ImportFrom, ast.FunctionDef, ast.ClassDef, ast.Assign)
        for name, tree in self.trees.items():
            for at, node in enumerate(tree.body):
                docstring = at == 0 and isinstance(node, ast.Expr) and isinstance(node.value, ast.Constant)
                self.assertTrue(docstring or isinstance(node, allowed), f"{name}:{node.lineno}")
                if isinstance(node, ast.Assign):
                    self.assertEqual(len(node.targets), 1, f"{name}:{node.lineno}")
                    self.assertFalse([one for one in ast.walk(node.value) if isinstance(one, ast.Call)])

    def test_operators(self):
        for spot, node in self.each(ast.BinOp):
            if isinstance(node.op, ast.Pow):
                self.assertIsInstance(node.right, ast.Constant, spot)
        for spot, node in self.each(ast.AugAssign):
            self.assertIsInstance(node.op, (ast.Add, ast.Sub), spot)
            self.assertIsInstance(node.value, ast.Constant, spot)
            self.assertIsInstance(node.value.value, int, spot)
        for spot, node in self.each(ast.Compare):
            for operator, other in zip(node.ops, node.comparators):
                if isinstance(operator, (ast.Is, ast.IsNot)):
                    self.assertIsInstance(other, ast.Constant, spot)

    def test_calls(self):
        methods = {node.name for _, node in self.each(ast.FunctionDef)}
        for spot, node in self.each(ast.Call):
            if isinstance(node.func, ast.Attribute):
                self.assertIn(node.func.attr, METHODS | methods, spot)
            self.assertFalse([one for one in node.args if isinstance(one, ast.Starred)], spot)
            names = [keyword.arg for keyword in node.keywords]
            self.assertNotIn(None, names, spot)
            if isinstance(node.func, ast.Name) and node.func.id in dir(builtins):
                self.assertLessEqual(set(names), {"key", "reverse", "default", "start", "strict"}, spot)

    def test_iterated_at_once(self):
        lazy = {"zip", "enumerate", "reversed", "range"}
        for name, tree in self.trees.items():
            parents = {child: node for node in ast.walk(tree) for child in ast.iter_child_nodes(node)}
            for node in ast.walk(tree):
                if isinstance(node, ast.GeneratorExp):
                    self.fail(f"{name}:{node.lineno}")
                if isinstance(node, ast.Call) and isinstance(node.func, ast.Name) and node.func.id in lazy:
                    above = parents[node]
                    looped = isinstance(above, (ast.For, ast.comprehension)) and above.iter is node
                    kept = isinstance(above, ast.Assign) and node.func.id == "range"
                    measured = isinstance(above, ast.Call) and node.func.id == "range" and above.func.id in ("len", "list", "tuple")
                    self.assertTrue(looped or kept or measured, f"{name}:{node.lineno}")

    def test_sets(self):
        for name, tree in self.trees.items():
            parents = {child: node for node in ast.walk(tree) for child in ast.iter_child_nodes(node)}
            for node in ast.walk(tree):
                self.assertNotIsInstance(node, (ast.Set, ast.SetComp), name)
                if isinstance(node, ast.Call) and isinstance(node.func, ast.Name) and node.func.id == "set":
                    above = parents[node]
                    self.assertIn(above.func.id, ("sorted", "len"), f"{name}:{node.lineno}")

    def test_classes(self):
        properties = set()
        stored = set()
        for spot, node in self.each(ast.ClassDef):
            self.assertFalse(node.decorator_list, spot)
            for row in node.body:
                self.assertTrue(isinstance(row, ast.FunctionDef) or row is node.body[0], spot)
                if isinstance(row, ast.FunctionDef):
                    words = [decorator.id for decorator in row.decorator_list]
                    self.assertIn(words, ([], ["property"], ["classmethod"], ["staticmethod"]), spot)
                    if words == ["property"]:
                        properties.add(row.name)
                    if row.name.startswith("__"):
                        self.assertIn(row.name, DUNDERS, spot)
        for spot, node in self.each(ast.FunctionDef):
            if node.decorator_list:
                self.assertEqual(node.args.args[0].arg in ("self", "cls"), True, spot)
        for spot, node in self.each(ast.Attribute):
            if isinstance(node.ctx, ast.Store):
                self.assertIsInstance(node.value, ast.Name, spot)
                stored.add(node.attr)
            elif not node.attr.startswith("__"):
                self.assertRegex(node.attr, r"^_?[a-z][a-z_]*$", spot)
        self.assertFalse(properties & stored)

    def test_names_of_methods_and_attributes(self):
        methods, properties, attributes = set(), set(), set()
        for _, node in self.each(ast.ClassDef):
            for row in node.body:
                if isinstance(row, ast.FunctionDef):
                    (properties if [one for one in row.decorator_list if one.id == "property"] else methods).add(row.name)
        for _, node in self.each(ast.Attribute):
            if isinstance(node.ctx, ast.Store):
                attributes.add(node.attr)
        self.assertFalse(methods & properties)
        self.assertFalse(methods & attributes)
        self.assertFalse(properties & attributes)

    def test_barred_names(self):
        barred = re.compile(
            r"(_wall|_pe_|_dcw_|_enum_|_cm_|_twin_re_|_lay_|_law_|_stub_|_sre|_WallAttr)"
            r"|(_cold|_tuplegetter|_outside|_record|_written_out|_member_names)[0-9_]*$"
        )
        for spot, node in self.each(ast.Name, ast.Attribute, ast.FunctionDef, ast.ClassDef, ast.arg, ast.keyword):
            for part in ("id", "attr", "name", "arg"):
                self.assertFalse(barred.match(getattr(node, part, None) or ""), spot)

    def test_plain_values_at_module_level(self):
        for name, tree in self.trees.items():
            functions = {node.name for node in tree.body if isinstance(node, ast.FunctionDef)}
            for node in tree.body:
                if isinstance(node, ast.Assign):
                    for row in ast.walk(node.value):
                        self.assertTrue(not isinstance(row, ast.Name) or row.id in functions, f"{name}:{node.lineno}")
                        if isinstance(row, (ast.List, ast.Tuple, ast.Dict)):
                            inner = [one for one in ast.walk(row) if one is not row and isinstance(one, (ast.List, ast.Dict))]
                            self.assertFalse(inner, f"{name}:{node.lineno}")

    def test_length_methods(self):
        for spot, node in self.each(ast.FunctionDef):
            if node.name == "__len__":
                self.assertEqual(len(node.body), 1, spot)
                self.assertEqual(node.body[0].value.func.id, "len", spot)
            if node.name in ("__eq__", "__str__", "__iter__"):
                self.assertIsInstance(node.body[-1], (ast.Return, ast.Raise), spot)
                self.assertFalse([row for row in ast.walk(node) if isinstance(row, (ast.Assign, ast.AugAssign))], spot)

    def test_changed_lists_are_own(self):
        # No operator and no property runs these, which change what they were given.
        free = ("worthstead.lang.reader", "worthstead.machine.course", "worthstead.machine.freezing")
        changing = {"append", "extend", "pop", "insert", "clear", "remove", "reverse", "sort", "update", "setdefault"}
        for spot, node in self.each(ast.FunctionDef):
            made = {}
            for row in ast.walk(node):
                if isinstance(row, ast.Assign):
                    for target in row.targets:
                        if isinstance(target, ast.Name):
                            made.setdefault(target.id, []).append(row.value)
            for row in ast.walk(node):
                if isinstance(row, ast.Call) and isinstance(row.func, ast.Attribute) and row.func.attr in changing:
                    held = row.func.value
                    own = isinstance(held, ast.Name) and held.id in made
                    inner = isinstance(held, ast.Subscript) and getattr(held.value, "id", None) in made
                    inner = inner or (isinstance(held, ast.Attribute) and getattr(held.value, "id", None) == "self")
                    self.assertTrue(own or inner or spot.partition(":")[0] in free, f"{spot}: {ast.unparse(row)}")


if __name__ == "__main__":
    unittest.main()
