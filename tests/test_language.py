"""Those rules of LANGUAGE.md that can be seen in one file of the package, or in all imports together."""

import ast
import builtins
import pathlib
import unittest

PACKAGE = pathlib.Path(__file__).resolve().parent.parent / "threescribes"
FILES = sorted(PACKAGE.rglob("*.py"))
STATEMENTS = (ast.FunctionDef, ast.ClassDef, ast.ImportFrom, ast.Assign, ast.Expr)
BUILTINS = """len range enumerate zip min max sum abs sorted reversed int str bool bytes list tuple dict set frozenset
    isinstance ord repr any all divmod pow getattr hasattr setattr iter next map type super object Exception ValueError
    TypeError KeyError IndexError LookupError ZeroDivisionError ArithmeticError OverflowError RuntimeError
    NotImplementedError AttributeError StopIteration NotImplemented""".split()
LIBRARY = {"heapq": ["heappush", "heappop", "heapify", "heapreplace", "heappushpop"],
           "math": ["gcd", "lcm", "isqrt", "comb", "perm", "factorial"],
           "itertools": ["product", "combinations", "permutations", "chain", "accumulate", "pairwise", "islice",
                         "zip_longest"],
           "collections": ["defaultdict", "deque"]}
METHODS = """append clear copy count endswith extend find get index insert isalnum isalpha isdigit islower isspace
    isupper items join keys ljust lower lstrip partition pop remove replace reverse rfind rjust rpartition rsplit
    rstrip setdefault split splitlines startswith strip update upper values zfill bit_length add discard""".split()
BARRED = """mro elements open input law version_info with_traceback add_note register attrgetter breakpoint builtins
    compile delattr dir eval exec exit gc globals help importlib locals methodcaller os vars sys typing enum
    namedtuple overload dataclass contextmanager""".split()


def tree_of(file):
    return ast.parse(file.read_text(encoding="ascii"))


def nodes(kind):
    return [(file.name, node) for file in FILES for node in ast.walk(tree_of(file)) if isinstance(node, kind)]


def defined_in(tree):
    """The functions, classes and values of a file."""
    names = [node.name for node in tree.body if isinstance(node, (ast.FunctionDef, ast.ClassDef))]
    return names + [target.id for node in tree.body if isinstance(node, ast.Assign) for target in node.targets]


def names_bound(tree):
    """All names that a file gives a meaning, with the parameters."""
    bound = []
    for node in ast.walk(tree):
        if isinstance(node, (ast.FunctionDef, ast.ClassDef)):
            bound.append(node.name)
        elif isinstance(node, ast.arg):
            bound.append(node.arg)
        elif isinstance(node, ast.Name) and not isinstance(node.ctx, ast.Load):
            bound.append(node.id)
        elif isinstance(node, ast.alias):
            bound.append(node.asname or node.name)
        elif isinstance(node, ast.ExceptHandler) and node.name:
            bound.append(node.name)
    return bound


def docstrings(tree):
    return [node.body[0].value for node in ast.walk(tree)
            if isinstance(node, (ast.Module, ast.ClassDef, ast.FunctionDef)) and ast.get_docstring(node) is not None]


class TheFiles(unittest.TestCase):
    def test_nothing_else_in_the_package(self):
        for path in PACKAGE.rglob("*"):
            if "__pycache__" not in path.parts:
                self.assertTrue(path.suffix == ".py" or (path / "__init__.py").is_file(), path)

    def test_sizes_and_characters(self):
        for file in FILES:
            text = file.read_text(encoding="ascii")
            self.assertLessEqual(len(text.splitlines()), 399, file)
            for line in text.splitlines():
                self.assertLessEqual(len(line), 120, (file, line))
            self.assertTrue(all(" " <= sign <= "~" or sign == "\n" for sign in text), file)
        for name, node in nodes(ast.FunctionDef):
            self.assertLessEqual(node.end_lineno - node.lineno + 1, 40, (name, node.name))


class TheModules(unittest.TestCase):
    def test_module_level(self):
        for file in FILES:
            for node in tree_of(file).body:
                self.assertIsInstance(node, STATEMENTS, file)
                if isinstance(node, ast.Expr):
                    self.assertIsInstance(node.value, ast.Constant, file)
                if isinstance(node, ast.Assign):
                    self.assertFalse([part for part in ast.walk(node) if isinstance(part, ast.Call)], file)

    def test_imports_name_the_file_that_defines(self):
        self.assertEqual(nodes(ast.Import), [])
        for name, node in nodes(ast.ImportFrom):
            if node.module in LIBRARY:
                self.assertTrue(all(alias.name in LIBRARY[node.module] for alias in node.names), name)
                continue
            self.assertEqual((node.level, node.module.split(".")[0]), (0, "threescribes"), name)
            file = PACKAGE.joinpath(*node.module.split(".")[1:]).with_suffix(".py")
            defined = defined_in(tree_of(file))
            for alias in node.names:
                self.assertIn(alias.name, defined, name)

    def test_no_circle_of_imports(self):
        behind = {}
        for name, node in nodes(ast.ImportFrom):
            behind.setdefault(name, []).append(node.module.split(".")[-1] + ".py")
        left = [file.name for file in FILES]
        while left:
            free = [name for name in left if not set(behind.get(name, [])) & set(left)]
            self.assertTrue(free, left)
            left = [name for name in left if name not in free]

    def test_each_name_has_one_meaning(self):
        for file in FILES:
            tree = tree_of(file)
            top = defined_in(tree) + [alias.name for node in tree.body if isinstance(node, ast.ImportFrom)
                                      for alias in node.names]
            self.assertEqual(len(top), len(set(top)), file)
            bound = names_bound(tree)
            for name in top:
                self.assertEqual(bound.count(name), 1, (file, name))

    def test_names(self):
        for file in FILES:
            for name in names_bound(tree_of(file)):
                if not (name.startswith("__") and name.endswith("__")):
                    self.assertFalse(hasattr(builtins, name), (file, name))
                    self.assertNotIn(name, BARRED, file)
                    self.assertFalse(name.startswith("__") or name.startswith("_wall"), (file, name))


class TheLanguage(unittest.TestCase):
    def test_builtins(self):
        for file in FILES:
            bound = names_bound(tree_of(file))
            for node in ast.walk(tree_of(file)):
                if isinstance(node, ast.Name) and node.id not in bound:
                    self.assertIn(node.id, BUILTINS, file)

    def test_methods(self):
        own = [node.name for _, node in nodes(ast.FunctionDef)] + ["__init__"]
        for name, node in nodes(ast.Call):
            if isinstance(node.func, ast.Attribute):
                self.assertIn(node.func.attr, METHODS + own, name)

    def test_names_of_methods_and_attributes(self):
        taken = {name for kind in (str, int, list, dict, set, bytes) for name in dir(kind)}
        taken -= set("count index title find get join lower upper split strip copy add".split())
        for name, node in nodes(ast.Attribute):
            if isinstance(node.ctx, ast.Store):
                self.assertNotIn(node.attr, taken, name)
        for name, node in nodes(ast.ClassDef):
            for part in node.body:
                if isinstance(part, ast.FunctionDef) and not part.name.startswith("__"):
                    self.assertNotIn(part.name, taken, name)
            methods = {part.name for part in node.body if isinstance(part, ast.FunctionDef)}
            stored = {part.attr for part in ast.walk(node) if isinstance(part, ast.Attribute)
                      and isinstance(part.ctx, ast.Store)}
            self.assertFalse(methods & stored, name)

    def test_attributes_that_are_read_are_assigned(self):
        stored = {node.attr for _, node in nodes(ast.Attribute) if isinstance(node.ctx, ast.Store)}
        defined = {node.name for _, node in nodes(ast.FunctionDef)}
        for name, node in nodes(ast.Attribute):
            if isinstance(node.ctx, ast.Load) and node.attr not in METHODS:
                self.assertIn(node.attr, stored | defined | {"__init__"}, name)

    def test_statements_and_expressions(self):
        self.assertEqual(nodes((ast.AsyncFunctionDef, ast.AsyncFor, ast.AsyncWith, ast.Await, ast.Div)), [])
        for name, node in nodes(ast.ClassDef):
            self.assertEqual(node.decorator_list, [], name)
        for name, node in nodes(ast.Constant):
            self.assertNotIsInstance(node.value, (float, complex), name)

    def test_no_percent_sign_in_a_string(self):
        for file in FILES:
            tree = tree_of(file)
            apart = docstrings(tree)
            for node in ast.walk(tree):
                if isinstance(node, ast.Constant) and isinstance(node.value, str) and "%" in node.value:
                    self.assertTrue(any(node is text for text in apart), (file, node.lineno))

    def test_is_stands_beside_none_and_truths(self):
        for name, node in nodes(ast.Compare):
            for sign, right in zip(node.ops, node.comparators):
                if isinstance(sign, (ast.Is, ast.IsNot)):
                    self.assertTrue(isinstance(right, ast.Constant) and right.value in (None, True, False), name)

    def test_sets_are_only_sorted_counted_and_asked(self):
        for file in FILES:
            tree = tree_of(file)
            used = [part for node in ast.walk(tree) for part in asked_of_sets(node)]
            for node in ast.walk(tree):
                called = isinstance(node, ast.Call) and getattr(node.func, "id", "") == "set"
                if called or isinstance(node, (ast.Set, ast.SetComp)):
                    self.assertTrue(any(node is part for part in used), (file.name, node.lineno))


def asked_of_sets(node):
    """The expressions below a node that may be sets."""
    if isinstance(node, ast.Call) and getattr(node.func, "id", "") in ("sorted", "len"):
        return node.args
    if isinstance(node, ast.Compare):
        return [node.left] + node.comparators
    if isinstance(node, ast.Assign) and len(node.targets) == 1 and isinstance(node.targets[0], ast.Name):
        return [node.value]
    return []
