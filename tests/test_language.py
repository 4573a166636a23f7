"""The rules of ../shared/LANGUAGE.md that can be seen without running anything."""

import ast
import builtins
import re
import unittest
from pathlib import Path

PACKAGE = Path(__file__).resolve().parent.parent / "corebank"
ALLOWED_BUILTINS = set(
    "len range enumerate zip min max sum abs sorted reversed int str bool list tuple dict set isinstance ord repr any"
    " all divmod pow getattr hasattr setattr iter next map print object float bytes"
    " Exception ValueError TypeError KeyError IndexError LookupError ZeroDivisionError ArithmeticError OverflowError"
    " RuntimeError NotImplementedError AttributeError StopIteration NotImplemented".split()
)
BARRED_NAMES = set(
    "register mro elements open input law version_info with_traceback add_note attrgetter breakpoint builtins compile"
    " copyright credits delattr dir eval exec exit gc globals help id importlib license locals methodcaller os quit"
    " super type vars sys __name__".split()
)
BARRED_WORDS = set(
    "typing typing_extensions enum Enum IntEnum StrEnum Flag IntFlag Generic Protocol ABC ABCMeta namedtuple NamedTuple"
    " TypedDict TYPE_CHECKING abstractmethod dataclass overload contextmanager".split()
)
# The first list of L25, by which own methods may be called, too (L26).
FIRST_METHODS = set(
    "append clear copy count endswith extend find get index insert isalnum isalpha isdigit islower isspace isupper"
    " items join keys ljust lower lstrip partition pop remove replace reverse rfind rjust rpartition rsplit rstrip"
    " setdefault split splitlines startswith strip update upper values zfill bit_length".split()
)
METHODS = FIRST_METHODS | {"removeprefix", "removesuffix", "add", "discard", "sort"}
# Python 3.11 and 3.13 do not agree which of the names told by L26 a whole number has; a float has them in both.
NATIVE_NAMES = {name for kind in (str, int, float, list, dict, set, bytes) for name in dir(kind)}
FREE_METHODS = FIRST_METHODS | {"add", "discard"}
FREE_ATTRIBUTES = set("count index title find get join lower upper split strip copy add".split())
BARRED_ATTRIBUTES = (NATIVE_NAMES - FREE_ATTRIBUTES) | {"args", "format", "format_map", "mro"}
DOUBLE_METHODS = {"__init__"}
BARRED_NODES = (ast.Global, ast.AsyncFunctionDef, ast.AsyncFor, ast.AsyncWith, ast.Await, ast.Div, ast.MatMult)


def sources():
    return sorted(PACKAGE.rglob("*.py"))


def trees():
    return [(path, ast.parse(path.read_text("utf-8"))) for path in sources()]


def nodes():
    for path, tree in trees():
        for node in ast.walk(tree):
            yield f"{path.name}:{getattr(node, 'lineno', 0)}", node


def docstrings(tree):
    """The nodes of all docstrings of a file."""
    found = []
    for node in ast.walk(tree):
        if isinstance(node, (ast.Module, ast.ClassDef, ast.FunctionDef)) and ast.get_docstring(node) is not None:
            found.append(node.body[0].value)
    return found


def own_methods():
    found = set()
    for _, node in nodes():
        if isinstance(node, ast.ClassDef):
            found.update(inner.name for inner in node.body if isinstance(inner, ast.FunctionDef))
    return found


def bound_names(node):
    """The names that a node binds."""
    if isinstance(node, ast.Name) and isinstance(node.ctx, ast.Store):
        return [node.id]
    if isinstance(node, (ast.FunctionDef, ast.ClassDef)):
        return [node.name]
    if isinstance(node, ast.arg):
        return [node.arg]
    if isinstance(node, ast.ImportFrom):
        return [alias.asname or alias.name for alias in node.names]
    return []


class LanguageTest(unittest.TestCase):

    def test_files(self):
        for path in PACKAGE.rglob("*"):
            if "__pycache__" in path.parts:
                continue
            self.assertTrue(path.is_file() and path.suffix == ".py" and path.name == path.name.lower(), path)
        self.assertTrue((PACKAGE / "__init__.py").exists())

    def test_signs_and_sizes(self):
        for path in sources():
            lines = path.read_text("utf-8").split("\n")
            self.assertLessEqual(len(lines) - 1, 399, path)
            for number, line in enumerate(lines, 1):
                self.assertLessEqual(len(line), 120, (path.name, number))
                self.assertTrue(all(" " <= sign <= "~" for sign in line), (path.name, number))

    def test_functions_are_small(self):
        for place, node in nodes():
            if isinstance(node, ast.FunctionDef):
                self.assertLessEqual(node.end_lineno - node.lineno + 1, 40, place)

    def test_module_level(self):
        for path, tree in trees():
            allowed = docstrings(tree)
            for node in tree.body:
                if isinstance(node, ast.Expr):
                    self.assertIn(node.value, allowed, path.name)
                elif isinstance(node, ast.Assign):
                    self.assertEqual([type(target) for target in node.targets], [ast.Name], path.name)
                else:
                    self.assertIsInstance(node, (ast.ImportFrom, ast.FunctionDef, ast.ClassDef), path.name)

    def test_one_binding_at_module_level(self):
        for path, tree in trees():
            names = []
            for node in tree.body:
                names += bound_names(node)
                if isinstance(node, ast.Assign):
                    names += bound_names(node.targets[0])
            self.assertEqual(len(names), len(set(names)), path.name)
            for node in ast.walk(tree):
                if isinstance(node, ast.FunctionDef):
                    local = [name for inner in ast.walk(node) for name in bound_names(inner) if inner is not node]
                    other = [name for top in tree.body for name in bound_names(top) if not isinstance(top, ast.FunctionDef)]
                    self.assertFalse(set(local) & set(other), (path.name, node.name))

    def test_imports(self):
        defined = {}
        for path, tree in trees():
            names = [name for node in tree.body for name in bound_names(node) if not isinstance(node, ast.ImportFrom)]
            names += [node.targets[0].id for node in tree.body if isinstance(node, ast.Assign)]
            defined["corebank." + path.stem] = names
        before = {}
        for path, tree in trees():
            before["corebank." + path.stem] = []
            for node in ast.walk(tree):
                self.assertNotIsInstance(node, ast.Import, path.name)
                if isinstance(node, ast.ImportFrom):
                    self.assertEqual(node.level, 0, path.name)
                    self.assertIn(node.module, defined, path.name)
                    for alias in node.names:
                        self.assertIn(alias.name, defined[node.module], path.name)
                    before["corebank." + path.stem].append(node.module)
        while before:
            free = [name for name in before if not any(other in before for other in before[name])]
            self.assertTrue(free, "files import from each other")
            for name in free:
                del before[name]

    def test_names(self):
        for place, node in nodes():
            for name in bound_names(node):
                self.assertNotIn(name, BARRED_NAMES, place)
                self.assertFalse(name.startswith("__") and not name.endswith("__"), place)
                if not isinstance(node, ast.FunctionDef) or name not in own_methods():
                    self.assertNotIn(name, dir(builtins), place)

    def test_attributes(self):
        for place, node in nodes():
            if isinstance(node, ast.Attribute) and isinstance(node.ctx, ast.Store):
                self.assertNotIn(node.attr, BARRED_ATTRIBUTES, place)
                self.assertIsInstance(node.value, ast.Name, place)

    def test_own_methods(self):
        for place, node in nodes():
            if isinstance(node, ast.ClassDef):
                told = {inner.name for inner in node.body if isinstance(inner, ast.FunctionDef)}
                self.assertEqual(told & (NATIVE_NAMES - FREE_METHODS - DOUBLE_METHODS), set(), place)

    def test_classes(self):
        for place, node in nodes():
            if isinstance(node, ast.ClassDef):
                told = [inner.name for inner in node.body if isinstance(inner, ast.FunctionDef)]
                stored = [inner.attr for inner in ast.walk(node) if isinstance(inner, ast.Attribute)
                          and isinstance(inner.ctx, ast.Store) and getattr(inner.value, "id", "") == "self"]
                self.assertEqual(len(told), len(set(told)), place)
                self.assertFalse(set(told) & set(stored), place)
                self.assertFalse([name for name in told if name.startswith("__") and name not in DOUBLE_METHODS], place)
                self.assertEqual(node.decorator_list, [], place)

    def test_builtins(self):
        for place, node in nodes():
            if isinstance(node, ast.Name) and node.id in dir(builtins):
                self.assertIn(node.id, ALLOWED_BUILTINS, place)

    def test_methods(self):
        own = own_methods()
        for place, node in nodes():
            if isinstance(node, ast.Call) and isinstance(node.func, ast.Attribute):
                self.assertIn(node.func.attr, METHODS | own, place)

    def test_statements_and_values(self):
        for place, node in nodes():
            self.assertNotIsInstance(node, BARRED_NODES, place)
            if isinstance(node, ast.Constant):
                self.assertNotIsInstance(node.value, (float, complex), place)
            if isinstance(node, ast.Raise) and node.exc is not None:
                self.assertIsInstance(node.exc, ast.Call, place)
                self.assertIsInstance(node.exc.func, ast.Name, place)
            if isinstance(node, ast.BinOp) and isinstance(node.op, ast.Pow):
                self.assertIsInstance(node.right, ast.Constant, place)

    def test_strings(self):
        for path, tree in trees():
            told = docstrings(tree)
            for node in ast.walk(tree):
                if isinstance(node, ast.Constant) and isinstance(node.value, str):
                    self.assertNotIn("%", node.value, (path.name, node.lineno))
                    if node not in told:
                        self.assertFalse(set(re.findall(r"\w+", node.value)) & BARRED_WORDS, (path.name, node.lineno))


if __name__ == "__main__":
    unittest.main()
