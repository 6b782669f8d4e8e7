"""Those rules of LANGUAGE.md that can be read off the files of the package one by one."""

import ast
import re
import unittest
import warnings
from pathlib import Path

PACKAGE = Path(__file__).resolve().parent.parent / "talkalike"
FILES = sorted(path for path in PACKAGE.rglob("*") if "__pycache__" not in path.parts)
BUILTINS = set("""
    len range enumerate zip min max sum abs sorted reversed int str bool bytes list tuple dict set frozenset isinstance
    ord repr any all divmod pow getattr hasattr setattr iter next map super Exception ValueError TypeError KeyError
    IndexError LookupError ZeroDivisionError ArithmeticError OverflowError RuntimeError NotImplementedError
    AttributeError StopIteration NotImplemented
""".split())
METHODS = set("""
    append clear copy count endswith extend find get index insert isalnum isalpha isdigit islower isspace isupper items
    join keys ljust lower lstrip partition pop remove replace reverse rfind rjust rpartition rsplit rstrip setdefault
    split splitlines startswith strip update upper values zfill bit_length removeprefix removesuffix add discard sort
""".split())
LIBRARY = {"heapq", "math", "itertools", "collections"}
NEVER_NAMES = set("register mro elements open input law version_info with_traceback add_note".split())
NO_NAMES = NEVER_NAMES | set("""
    attrgetter breakpoint builtins compile copyright credits delattr dir eval exec exit gc globals help id importlib
    license locals methodcaller os quit type vars sys hash filter format slice round object print chr
""".split())
NO_WORDS = re.compile(r"\b(type|typing|typing_extensions|enum|Enum|IntEnum|StrEnum|Flag|IntFlag|Generic|Protocol|ABC"
                      r"|ABCMeta|namedtuple|NamedTuple|TypedDict|TYPE_CHECKING|abstractmethod|_wall|_WallAttr)\b"
                      r"|dataclass|overload|contextmanager")


def trees():
    for path in FILES:
        yield path.name, ast.parse(path.read_text(encoding="ascii"))


def docstrings(tree):
    """The nodes that are docstrings."""
    found = []
    for node in ast.walk(tree):
        if isinstance(node, (ast.Module, ast.ClassDef, ast.FunctionDef)) and ast.get_docstring(node) is not None:
            found.append(node.body[0].value)
    return found


class Language(unittest.TestCase):

    def test_files(self):
        self.assertIn(PACKAGE / "__init__.py", FILES)
        for path in FILES:
            self.assertRegex(path.name, r"\A(__init__|[a-z][a-z0-9_]*)\.py\Z")
            text = path.read_text(encoding="ascii")
            lines = text.split("\n")
            self.assertLessEqual(len(lines), 400, path.name)
            for line in lines:
                self.assertRegex(line, r"\A[ -~]{0,120}\Z", path.name)

    def test_no_warnings(self):
        for path in FILES:
            with warnings.catch_warnings():
                warnings.simplefilter("error")
                compile(path.read_text(encoding="ascii"), path.name, "exec")

    def test_imports(self):
        modules = {name[:-3]: tree for name, tree in trees()}
        for name, tree in modules.items():
            for node in ast.walk(tree):
                self.assertNotIsInstance(node, ast.Import, name)
                if isinstance(node, ast.ImportFrom):
                    self.assertIn(node, tree.body)
                    self.assertEqual(node.level, 0)
                    if node.module not in LIBRARY:
                        package, _, module = node.module.partition(".")
                        self.assertEqual(package, "talkalike")
                        for alias in node.names:
                            self.assertIn(alias.name, bound(modules[module], imports=False), name)

    def test_module_level(self):
        for name, tree in trees():
            for node in tree.body:
                allowed = (ast.ImportFrom, ast.FunctionDef, ast.ClassDef, ast.Assign)
                self.assertTrue(isinstance(node, allowed) or node.value in docstrings(tree), name)
            names = bound(tree)
            self.assertEqual(len(names), len(set(names)), name)

    def test_names(self):
        for name, tree in trees():
            own = set(bound(tree))
            for node in ast.walk(tree):
                if isinstance(node, ast.FunctionDef):
                    self.assertLessEqual(node.end_lineno - node.lineno + 1, 40, (name, node.name))
                for word in words_of(node):
                    self.assertNotIn(word, NEVER_NAMES if isinstance(node, ast.Attribute) else NO_NAMES, name)
                    self.assertRegex(word, r"\A(_|_?[A-Za-z][A-Za-z0-9_]*|__[a-z]+__)\Z")
            methods = [node for scope in tree.body if isinstance(scope, ast.ClassDef) for node in scope.body]
            for scope in tree.body + methods:
                # What is nested in a function is read with it.
                if isinstance(scope, ast.FunctionDef):
                    stored = stored_in(scope)
                    self.assertFalse(stored & (own | BUILTINS), (name, scope.name))
                    over = {node.id for node in scope.decorator_list}
                    self.assertLessEqual(over, {"property"}, (name, scope.name))
                    read = {node.id for body in scope.body for node in ast.walk(body) if isinstance(node, ast.Name)}
                    self.assertLessEqual(read - stored, own | BUILTINS, (name, scope.name))
                    self.assertNotIn("_", {node.id for node in ast.walk(scope)
                                           if isinstance(node, ast.Name) and isinstance(node.ctx, ast.Load)}, name)

    def test_attributes(self):
        methods, properties, assigned, read = set(), set(), set(), set()
        for _, tree in trees():
            for node in ast.walk(tree):
                if isinstance(node, ast.ClassDef):
                    for method in node.body:
                        if isinstance(method, ast.FunctionDef):
                            (properties if method.decorator_list else methods).add(method.name)
                elif isinstance(node, ast.Attribute):
                    (read if isinstance(node.ctx, ast.Load) else assigned).add(node.attr)
        # A name is a method, a property or an attribute throughout the package, and each attribute that is read exists.
        self.assertEqual(methods & assigned, set())
        self.assertEqual(properties & (methods | assigned), set())
        self.assertLessEqual(read, methods | properties | assigned | METHODS)
        self.assertEqual((properties | assigned) & METHODS, set())

    def test_values_and_statements(self):
        barred = (ast.Global, ast.AsyncFunctionDef, ast.Await, ast.Div, ast.MatMult)
        for name, tree in trees():
            texts = docstrings(tree)
            for node in ast.walk(tree):
                self.assertNotIsInstance(node, barred, name)
                if isinstance(node, ast.Constant):
                    self.assertNotIsInstance(node.value, (float, complex), name)
                    if isinstance(node.value, str):
                        self.assertNotIn("%", node.value, name)
                        if node not in texts:
                            self.assertIsNone(NO_WORDS.search(node.value), name)


def bound(tree, imports=True):
    """The names that a file binds at module level."""
    found = []
    for node in tree.body:
        if isinstance(node, (ast.FunctionDef, ast.ClassDef)):
            found.append(node.name)
        elif isinstance(node, ast.Assign):
            found.extend(target.id for target in node.targets)
        elif isinstance(node, ast.ImportFrom) and imports:
            found.extend(alias.asname or alias.name for alias in node.names)
    return found


def stored_in(scope):
    """The names that a function and the functions nested in it bind."""
    found = set()
    for node in ast.walk(scope):
        if isinstance(node, ast.Name) and isinstance(node.ctx, ast.Store):
            found.add(node.id)
        elif isinstance(node, ast.arg):
            found.add(node.arg)
        elif isinstance(node, (ast.FunctionDef, ast.ExceptHandler, ast.MatchAs, ast.MatchStar)) and node is not scope:
            found.add(node.name)
    return found


def words_of(node):
    """The names that stand in this very node."""
    words = [getattr(node, key, None) for key in ("id", "arg", "attr", "name")]
    return [word for word in words if isinstance(word, str)]


if __name__ == "__main__":
    unittest.main()
