"""The rules of the language that a glance at the code can check; the numbers are those of the rules."""

import ast
import builtins
import pathlib
import unittest

PACKAGE = pathlib.Path(__file__).resolve().parent.parent / "whosetomorrow"
LIBRARY = {
    "heapq": {"heappush", "heappop", "heapify", "heapreplace", "heappushpop"},
    "math": {"gcd", "lcm", "isqrt", "comb", "perm", "factorial"},
    "itertools": {"chain", "accumulate", "pairwise", "islice", "zip_longest"},
    "collections": {"defaultdict"},
}
BUILTINS = set(
    "len range enumerate zip min max sum abs sorted reversed int str bool list tuple dict set isinstance ord repr any "
    "all divmod ValueError TypeError KeyError iter super map property classmethod staticmethod".split())
METHODS = set(
    "append clear copy count endswith extend find get index insert isalnum isalpha isdigit islower isspace isupper "
    "items join keys ljust lower lstrip partition pop remove replace reverse rfind rjust rpartition rsplit rstrip "
    "setdefault split splitlines startswith strip update upper values zfill bit_length add discard sort".split())
DUNDERS = {"__init__", "__eq__", "__repr__", "__str__", "__len__", "__enter__", "__exit__", "__call__", "__iter__"}
BARRED = set(
    "register mro elements open input law version_info with_traceback add_note attrgetter breakpoint builtins compile "
    "copyright credits delattr dir eval exec exit gc globals hasattr getattr setattr help id importlib license locals "
    "methodcaller os quit type vars sys iter next map filter hash _cold _tuplegetter _outside _record _written_out "
    "_member_names".split())
WORDS = set(
    "type typing typing_extensions enum Enum IntEnum StrEnum Flag IntFlag Generic Protocol ABC ABCMeta namedtuple "
    "NamedTuple TypedDict TYPE_CHECKING abstractmethod".split())
STATEMENTS = (
    ast.Assign, ast.AugAssign, ast.If, ast.While, ast.For, ast.Return, ast.Break, ast.Continue, ast.Pass, ast.Raise,
    ast.Assert, ast.Delete, ast.Nonlocal, ast.With, ast.Try, ast.Expr, ast.FunctionDef, ast.ClassDef, ast.ImportFrom,
)
SCOPES = (ast.FunctionDef, ast.Lambda)
AT_ONCE = {"list", "tuple", "dict", "sorted", "enumerate", "zip"}


def read_files():
    """Return the files of the package by their names, parsed, with parents set."""
    trees = {}
    for path in sorted(PACKAGE.glob("*.py")):
        text = path.read_text(encoding="utf-8")
        tree = ast.parse(text)
        for node in ast.walk(tree):
            for child in ast.iter_child_nodes(node):
                child.parent = node
        trees[path.stem] = (text, tree)
    return trees


FILES = read_files()


def nodes(kind):
    """Yield (file, node) for all nodes of a kind."""
    for name, (_, tree) in FILES.items():
        for node in ast.walk(tree):
            if isinstance(node, kind):
                yield f"{name}:{getattr(node, 'lineno', 0)}", node


def defined_names(tree):
    """Return what a file binds at module level itself."""
    names = []
    for node in tree.body:
        if isinstance(node, (ast.FunctionDef, ast.ClassDef)):
            names.append(node.name)
        if isinstance(node, ast.Assign):
            names.append(node.targets[0].id)
    return names


def imports_of(tree):
    """Return the couples (module, name) that a file imports."""
    return [(node.module, alias.name) for node in tree.body if isinstance(node, ast.ImportFrom)
            for alias in node.names]


def own_names(function):
    """Return the parameters and local names of a function, nested ones too."""
    names = []
    for node in ast.walk(function):
        if isinstance(node, ast.arg):
            names.append(node.arg)
        if isinstance(node, ast.Name) and isinstance(node.ctx, ast.Store):
            names.append(node.id)
        if isinstance(node, ast.FunctionDef) and node is not function:
            names.append(node.name)
    return names


class FilesTest(unittest.TestCase):
    def test_l1_l14_files_and_characters(self):
        for path in PACKAGE.rglob("*"):
            if "__pycache__" not in path.parts:
                self.assertEqual(path.suffix, ".py", path)
        for name, (text, _) in FILES.items():
            self.assertRegex(name, r"^[a-z0-9_]+$")
            self.assertEqual([sign for sign in text if sign != "\n" and not " " <= sign <= "~"], [], name)

    def test_l10_size(self):
        for name, (text, _) in FILES.items():
            lines = text.split("\n")
            self.assertLessEqual(len(lines), 400, name)
            self.assertLessEqual(max(map(len, lines)), 120, name)
        for place, node in nodes(ast.FunctionDef):
            self.assertLessEqual(node.end_lineno - node.lineno + 1, 40, place)

    def test_l2_l16_imports(self):
        for place, node in nodes((ast.Import, ast.ImportFrom)):
            self.assertIsInstance(node, ast.ImportFrom, place)
            self.assertEqual(node.level, 0, place)
            self.assertIsInstance(node.parent, ast.Module, place)
            for alias in node.names:
                self.assertIsNone(alias.asname, place)
                if node.module in LIBRARY:
                    self.assertIn(alias.name, LIBRARY[node.module], place)
                else:
                    package, file = node.module.split(".")
                    self.assertEqual(package, "whosetomorrow", place)
                    self.assertIn(alias.name, defined_names(FILES[file][1]), place)

    def test_l16_no_circle_of_imports(self):
        left = {
            name: {module.split(".")[1] for module, _ in imports_of(tree) if module.startswith("whosetomorrow.")}
            for name, (_, tree) in FILES.items()}
        while left:
            free = [name for name, needs in left.items() if not needs & set(left)]
            self.assertTrue(free, left)
            for name in free:
                del left[name]

    def test_imports_are_used(self):
        for name, (_, tree) in FILES.items():
            used = {node.id for node in ast.walk(tree) if isinstance(node, ast.Name)}
            for _, imported in imports_of(tree):
                self.assertIn(imported, used, name)

    def test_l3_module_level(self):
        for name, (_, tree) in FILES.items():
            self.assertIsInstance(tree.body[0], ast.Expr, name)
            for node in tree.body[1:]:
                self.assertIsInstance(node, (ast.ImportFrom, ast.FunctionDef, ast.ClassDef, ast.Assign), name)
                if isinstance(node, ast.Assign):
                    self.assertEqual(len(node.targets), 1, name)
                    self.assertIsInstance(node.targets[0], ast.Name, name)
                    ast.literal_eval(node.value)

    def test_l15_one_binding_for_each_name(self):
        for name, (_, tree) in FILES.items():
            bound = defined_names(tree) + [imported for _, imported in imports_of(tree)]
            self.assertEqual(sorted(bound), sorted(set(bound)), name)
            barred = {imported for _, imported in imports_of(tree)}
            barred |= {node.name for node in tree.body if isinstance(node, ast.ClassDef)}
            for function in ast.walk(tree):
                if isinstance(function, SCOPES):
                    self.assertEqual(barred & set(own_names(function)), set(), name)

    def test_l15_module_tables_are_only_read(self):
        for name, (_, tree) in FILES.items():
            tables = {
                node.targets[0].id for node in tree.body
                if isinstance(node, ast.Assign) and isinstance(node.value, (ast.Dict, ast.List))}
            for node in ast.walk(tree):
                if isinstance(node, ast.Name) and node.id in tables and isinstance(node.ctx, ast.Load):
                    parent = node.parent
                    fine = isinstance(parent, ast.Attribute) and parent.attr in ("get", "items", "keys", "values")
                    fine = fine or isinstance(parent, ast.Subscript) and parent.value is node
                    fine = fine or isinstance(parent, ast.Compare)
                    self.assertTrue(fine, f"{name}:{node.lineno}")


class NamesTest(unittest.TestCase):
    def test_l8_l12_l15_l17_names(self):
        for place, node in nodes((ast.FunctionDef, ast.Lambda)):
            for name in own_names(node) + ([node.name] if isinstance(node, ast.FunctionDef) else []):
                if name not in DUNDERS:
                    self.assertRegex(name, r"^(_|_?[a-zA-Z][a-zA-Z0-9_]*)$", place)
                    self.assertNotIn(name, BARRED, place)
                    is_method = isinstance(getattr(node, "parent", None), ast.ClassDef) and name == node.name
                    self.assertFalse(hasattr(builtins, name) and not is_method, f"{place} {name}")
                    self.assertFalse(name.startswith(("_wall", "_pe_", "_dcw_", "_enum_", "_cm_", "_law_", "_sre")))

    def test_l8_only_builtins_that_are_allowed(self):
        for name, (_, tree) in FILES.items():
            bound = set(defined_names(tree)) | {imported for _, imported in imports_of(tree)}
            for node in ast.walk(tree):
                if isinstance(node, ast.Name) and isinstance(node.ctx, ast.Load) and hasattr(builtins, node.id):
                    self.assertIn(node.id, BUILTINS - bound, f"{name}:{node.lineno}")

    def test_l17_words(self):
        for place, node in nodes((ast.Name, ast.Attribute, ast.Constant, ast.arg, ast.keyword)):
            if isinstance(node, ast.Constant) and isinstance(node.parent, ast.Expr):
                continue
            text = {
                ast.Name: "id", ast.Attribute: "attr", ast.Constant: "value", ast.arg: "arg", ast.keyword: "arg",
            }[type(node)]
            found = getattr(node, text)
            if isinstance(found, str):
                self.assertEqual(WORDS & set(found.replace(",", " ").replace(".", " ").split()), set(), place)

    def test_l25_l26_attributes_and_methods(self):
        methods, attributes = set(), set()
        for _, node in nodes(ast.ClassDef):
            methods |= {part.name for part in node.body if isinstance(part, ast.FunctionDef)}
        for place, node in nodes(ast.Attribute):
            self.assertNotIn(node.attr, {"format", "format_map", "mro", "args"}, place)
            if isinstance(node.ctx, ast.Store):
                attributes.add(node.attr)
                self.assertIsInstance(node.value, ast.Name, place)
            if isinstance(node.parent, ast.Call) and node.parent.func is node:
                self.assertIn(node.attr, METHODS | methods, place)
        self.assertEqual(attributes & (METHODS - {"count", "index", "find"}), set())
        self.assertEqual(attributes & methods, set())

    def test_l12_underscore_alone_is_never_read(self):
        for place, node in nodes(ast.Name):
            self.assertFalse(node.id == "_" and isinstance(node.ctx, ast.Load), place)


class StatementsTest(unittest.TestCase):
    def test_l6_statements(self):
        for place, node in nodes(ast.stmt):
            self.assertIsInstance(node, STATEMENTS, place)
        for place, node in nodes(ast.ExceptHandler):
            self.assertIsInstance(node.type, (ast.Name, ast.Tuple), place)
            caught = [node.type] if isinstance(node.type, ast.Name) else node.type.elts
            for name in caught:
                self.assertFalse(hasattr(builtins, name.id), place)

    def test_l4_l21_no_decorators_and_no_annotations(self):
        for place, node in nodes((ast.FunctionDef, ast.ClassDef)):
            for decorator in node.decorator_list:
                self.assertIn(ast.unparse(decorator), ("property", "classmethod", "staticmethod"), place)
        for place, node in nodes(ast.arg):
            self.assertIsNone(node.annotation, place)
        for place, node in nodes(ast.FunctionDef):
            self.assertIsNone(node.returns, place)

    def test_l5_l28_classes(self):
        for place, node in nodes(ast.ClassDef):
            self.assertIsInstance(node.parent, ast.Module, place)
            for part in node.body:
                self.assertIsInstance(part, (ast.FunctionDef, ast.Expr, ast.Assign), place)
                if isinstance(part, ast.FunctionDef) and part.name.startswith("__"):
                    self.assertIn(part.name, DUNDERS, place)
        for place, node in nodes(ast.FunctionDef):
            if node.name == "__len__":
                self.assertRegex(ast.unparse(node.body[-1]), r"^return len\(.*\)$", place)
            if node.name == "__eq__":
                self.assertEqual(len(node.body), 1, place)
                name = node.parent.name
                self.assertRegex(ast.unparse(node.body[0]), rf"^return isinstance\(other, {name}\)( and |$)", place)

    def test_l7_expressions(self):
        barred = (
            ast.GeneratorExp, ast.Set, ast.NamedExpr, ast.Await, ast.MatMult, ast.Div, ast.Is, ast.IsNot,
        )
        for place, node in nodes(barred):
            if isinstance(node, (ast.Is, ast.IsNot)):
                compare = node.parent
                right = compare.comparators[compare.ops.index(node)]
                self.assertIn(getattr(right, "value", 0), (None, True, False), place)
                continue
            self.fail(f"{place} {node}")
        for place, node in nodes(ast.Starred):
            self.assertIsInstance(node.value, (ast.Name, ast.Attribute), place)
        for place, node in nodes(ast.Constant):
            self.assertNotIsInstance(node.value, (float, complex, bytes), place)
            if isinstance(node.value, str):
                self.assertNotIn("%", node.value, place)

    def test_l7_l24_comprehensions_and_sets(self):
        for place, node in nodes((ast.ListComp, ast.DictComp, ast.SetComp)):
            above = node
            while not isinstance(above, (ast.FunctionDef, ast.Module)):
                above = above.parent
            self.assertIsInstance(above, ast.FunctionDef, place)
        for place, node in nodes((ast.SetComp, ast.Call)):
            if isinstance(node, ast.SetComp) or isinstance(node.func, ast.Name) and node.func.id == "set":
                parent = node.parent
                fine = isinstance(parent, ast.Call) and parent.func.id in ("sorted", "len")
                fine = fine or isinstance(parent, (ast.Compare, ast.Assign))
                self.assertTrue(fine, place)

    def test_l23_iterated_at_once(self):
        makers = {"zip", "enumerate", "reversed", "map"} | {
            node.name for _, node in nodes(ast.FunctionDef)
            if any(isinstance(part, (ast.Yield, ast.YieldFrom)) for part in ast.walk(node))}
        plain = [node.name for _, node in nodes(ast.FunctionDef)]
        for place, node in nodes(ast.Name):
            if node.id not in makers:
                continue
            call = node.parent
            self.assertTrue(isinstance(call, ast.Call) and call.func is node, place)
            above = call.parent
            fine = isinstance(above, (ast.For, ast.comprehension)) and above.iter is call
            fine = fine or isinstance(above, ast.YieldFrom)
            fine = fine or (
                isinstance(above, ast.Call) and isinstance(above.func, ast.Name) and above.func.id in AT_ONCE)
            self.assertTrue(fine, place)
            for argument in call.args:
                if node.id not in ("zip", "enumerate", "reversed", "map"):
                    self.assertIsInstance(argument, (ast.Name, ast.Attribute, ast.Constant, ast.Tuple), place)
        for name in makers:
            self.assertLessEqual(plain.count(name), 1, name)
        for place, node in nodes((ast.Yield, ast.YieldFrom)):
            self.assertIsInstance(node.parent, ast.Expr, place)

    def test_l8_class_attributes_are_read_somewhere_and_calls_fit(self):
        for place, node in nodes(ast.Call):
            if isinstance(node.func, ast.Name) and node.func.id == "isinstance":
                self.assertIsInstance(node.args[1], (ast.Name, ast.Tuple), place)
            if isinstance(node.func, ast.Name) and hasattr(builtins, node.func.id):
                for keyword in node.keywords:
                    self.assertIn(keyword.arg, ("key", "reverse", "default", "start", "strict"), place)


if __name__ == "__main__":
    unittest.main()
