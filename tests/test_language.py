"""Rules of the language that can be looked up in the text of the package."""

import ast
import builtins
import pathlib
import unittest

PACKAGE = pathlib.Path(__file__).resolve().parent.parent / "boundbook"
FILES = sorted(PACKAGE.rglob("*.py"))
ALLOWED_IMPORTS = {
    "heapq": {"heappush", "heappop", "heapify", "heapreplace", "heappushpop"},
    "math": {"gcd", "lcm", "isqrt", "comb", "perm", "factorial"},
    "itertools": {"product", "combinations", "permutations", "chain", "accumulate", "pairwise",
                  "islice", "zip_longest"},
    "collections": {"defaultdict", "deque"},
}
BUILTINS = set("""len range enumerate zip min max sum abs sorted reversed int str bool list tuple dict set
    isinstance ord repr any all divmod map super Exception ValueError TypeError KeyError IndexError LookupError
    ZeroDivisionError""".split())
BARRED_NODES = (ast.AsyncFunctionDef, ast.Await, ast.Global, ast.Div, ast.MatMult)
BARRED_NAMES = set("""register mro elements open input law version_info with_traceback add_note
    typing typing_extensions enum Enum IntEnum StrEnum Flag IntFlag Generic Protocol ABC ABCMeta namedtuple
    NamedTuple TypedDict TYPE_CHECKING abstractmethod dataclass overload contextmanager globals locals vars
    eval exec compile getattr setattr hasattr delattr""".split())


def trees():
    return [(path, ast.parse(path.read_text(encoding="ascii"))) for path in FILES]


def bound_names(tree):
    """All names that are bound anywhere in a file: functions, classes, parameters, variables."""
    for node in ast.walk(tree):
        if isinstance(node, (ast.FunctionDef, ast.ClassDef)):
            yield node.name
        elif isinstance(node, ast.arg):
            yield node.arg
        elif isinstance(node, ast.Name) and isinstance(node.ctx, ast.Store):
            yield node.id


class LanguageTest(unittest.TestCase):
    def test_files_and_characters(self):
        self.assertTrue(all(path.suffix == ".py" for path in PACKAGE.rglob("*")
                            if path.is_file() and path.parent.name != "__pycache__"))
        for path in FILES:
            self.assertRegex(path.name, r"^[a-z0-9_]+\.py$")
            text = path.read_text(encoding="ascii")
            self.assertTrue(all(c == "\n" or " " <= c <= "~" for c in text), path)
            lines = text.splitlines()
            self.assertLessEqual(len(lines), 399, path)
            self.assertLessEqual(max(map(len, lines)), 120, path)

    def test_functions_are_short_and_without_decorators(self):
        for path, tree in trees():
            for node in ast.walk(tree):
                if isinstance(node, ast.FunctionDef):
                    self.assertLessEqual(node.end_lineno - node.lineno + 1, 40, (path, node.name))
                    self.assertEqual(node.decorator_list, [], (path, node.name))

    def test_module_level(self):
        allowed = (ast.ImportFrom, ast.FunctionDef, ast.ClassDef, ast.Assign)
        for path, tree in trees():
            self.assertIsNotNone(ast.get_docstring(tree), path)
            for node in tree.body[1:]:
                self.assertIsInstance(node, allowed, path)
            names = [node.name for node in tree.body if isinstance(node, (ast.FunctionDef, ast.ClassDef))]
            names += [alias.name for node in tree.body if isinstance(node, ast.ImportFrom) for alias in node.names]
            self.assertEqual(len(names), len(set(names)), path)

    def test_imports(self):
        for path, tree in trees():
            for node in ast.walk(tree):
                self.assertNotIsInstance(node, ast.Import, path)
                if isinstance(node, ast.ImportFrom):
                    self.assert_import_is_right(path, node)

    def assert_import_is_right(self, path, node):
        names = {alias.name for alias in node.names}
        self.assertEqual([alias.asname for alias in node.names], [None] * len(node.names), path)
        if node.module in ALLOWED_IMPORTS:
            self.assertLessEqual(names, ALLOWED_IMPORTS[node.module], path)
            return
        self.assertRegex(node.module, r"^boundbook\.[a-z0-9_]+$", path)
        source = ast.parse((PACKAGE / (node.module.split(".")[1] + ".py")).read_text(encoding="ascii"))
        self.assertLessEqual(names, set(bound_names(source)), path)

    def test_nothing_is_imported_in_a_circle(self):
        imports = {}
        for path, tree in trees():
            imports["boundbook." + path.stem] = [
                node.module for node in ast.walk(tree)
                if isinstance(node, ast.ImportFrom) and node.module.startswith("boundbook")]
        done = set()
        while len(done) < len(imports):
            ready = [name for name in imports if name not in done and set(imports[name]) <= done]
            self.assertTrue(ready, "imports go in a circle")
            done.update(ready)

    def test_names_of_builtins_keep_their_meaning(self):
        for path, tree in trees():
            for name in bound_names(tree):
                self.assertRegex(name, r"^(__[a-z]+__|_?[A-Za-z][A-Za-z0-9_]*|_)$", path)
                self.assertFalse(hasattr(builtins, name) and not name.startswith("__"), (path, name))

    def test_names_of_imports_and_classes_keep_their_meaning(self):
        for path, tree in trees():
            top = [alias.name for node in tree.body if isinstance(node, ast.ImportFrom) for alias in node.names]
            top += [node.name for node in tree.body if isinstance(node, ast.ClassDef)]
            functions = [node for node in ast.walk(tree) if isinstance(node, ast.FunctionDef)]
            for function in functions:
                inner = {name for part in function.body for name in bound_names(part)}
                inner.update(argument.arg for argument in function.args.args)
                self.assertEqual(inner & set(top), set(), (path, function.name))

    def test_no_name_is_a_method_and_an_attribute(self):
        for path, tree in trees():
            for made in [node for node in tree.body if isinstance(node, ast.ClassDef)]:
                methods = {node.name for node in made.body if isinstance(node, ast.FunctionDef)}
                attributes = {node.attr for node in ast.walk(made)
                              if isinstance(node, ast.Attribute) and isinstance(node.ctx, ast.Store)}
                self.assertEqual(methods & attributes, set(), (path, made.name))

    def test_names_that_are_not_used(self):
        for path, tree in trees():
            names = set(bound_names(tree))
            for node in ast.walk(tree):
                if isinstance(node, ast.Attribute):
                    names.add(node.attr)
                elif isinstance(node, ast.Name):
                    names.add(node.id)
            self.assertEqual(names & BARRED_NAMES, set(), path)

    def test_only_known_builtins_and_kinds_of_statements(self):
        for path, tree in trees():
            for node in ast.walk(tree):
                self.assertNotIsInstance(node, BARRED_NODES, path)
                if isinstance(node, ast.Name) and isinstance(node.ctx, ast.Load) and hasattr(builtins, node.id):
                    self.assertIn(node.id, BUILTINS, path)
                if isinstance(node, ast.Constant):
                    self.assertNotIsInstance(node.value, (float, complex), path)


if __name__ == "__main__":
    unittest.main()
