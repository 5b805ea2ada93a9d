"""Whether the files of the package keep the rules of LANGUAGE.md that can be seen in them with little effort."""

import ast
import pathlib
import re
import unittest

PACKAGE = pathlib.Path(__file__).resolve().parent.parent / "officepapers"
BUILTINS = """len range enumerate zip min max sum abs sorted reversed int str bool bytes list tuple dict set isinstance
ord repr any all divmod iter next map super ValueError""".split()
LIBRARY = {
    "heapq": {"heappush", "heappop", "heapify", "heapreplace", "heappushpop"},
    "math": {"gcd", "lcm", "isqrt", "comb", "perm", "factorial"},
    "itertools": {"product", "combinations", "permutations"},
}
METHODS = """append clear copy count endswith extend find get index insert isalnum isalpha isdigit islower isspace isupper
items join keys ljust lower lstrip partition pop remove replace reverse rfind rjust rpartition rsplit rstrip setdefault
split splitlines startswith strip update upper values zfill bit_length add discard sort __init__""".split()
NEVER = """type typing typing_extensions enum Enum IntEnum StrEnum Flag IntFlag Generic Protocol ABC ABCMeta namedtuple
NamedTuple TypedDict TYPE_CHECKING abstractmethod register mro elements open input law version_info with_traceback add_note
eval exec compile getattr setattr delattr hasattr globals locals vars dir id exit quit help gc os""".split()
NOT_ALLOWED = (
    ast.Global, ast.AsyncFunctionDef, ast.AsyncFor, ast.AsyncWith, ast.Await, ast.Import, ast.Div, ast.MatMult,
    ast.Set, ast.AnnAssign,
)


def trees():
    for path in sorted(PACKAGE.glob("*.py")):
        yield path.name, ast.parse(path.read_text("ascii"))


class Language(unittest.TestCase):
    def test_only_files_of_python(self):
        for path in PACKAGE.iterdir():
            if path.name != "__pycache__":
                self.assertRegex(path.name, "^[a-z_0-9]+[.]py$")

    def test_sizes_and_characters(self):
        for path in PACKAGE.glob("*.py"):
            lines = path.read_text("ascii").split("\n")
            self.assertLessEqual(len(lines), 400, path.name)
            for line in lines:
                self.assertLessEqual(len(line), 120, line)
                self.assertRegex(line, "^[ -~]*$")
                self.assertNotRegex(line, " $")

    def test_small_functions_without_decorators(self):
        for name, tree in trees():
            for node in ast.walk(tree):
                if isinstance(node, ast.FunctionDef):
                    self.assertLessEqual(node.end_lineno - node.lineno + 1, 40, (name, node.name))
                    self.assertEqual(node.decorator_list, [])

    def test_imports(self):
        for name, tree in trees():
            own = {path.stem for path in PACKAGE.glob("*.py")}
            for node in ast.walk(tree):
                if isinstance(node, ast.ImportFrom):
                    self.assertEqual(node.level, 0)
                    told = {alias.name for alias in node.names}
                    if node.module in LIBRARY:
                        self.assertLessEqual(told, LIBRARY[node.module], name)
                    else:
                        package, file = node.module.split(".")
                        self.assertEqual(package, "officepapers")
                        self.assertIn(file, own)
                        self.assertLessEqual(told, defined(file), name)

    def test_module_level(self):
        for name, tree in trees():
            self.assertIsInstance(tree.body[0], ast.Expr, name)
            above = set()
            for node in tree.body[1:]:
                self.assertIsInstance(node, (ast.ImportFrom, ast.FunctionDef, ast.ClassDef, ast.Assign))
                if isinstance(node, ast.FunctionDef):
                    above.add(node.name)
                if isinstance(node, ast.Assign) and not is_table_of(node.value, above):
                    ast.literal_eval(node.value)

    def test_nodes_and_names(self):
        for name, tree in trees():
            for node in ast.walk(tree):
                self.assertNotIsInstance(node, NOT_ALLOWED, name)
                if isinstance(node, ast.Constant):
                    self.assertNotIsInstance(node.value, (float, complex))
                    if isinstance(node.value, str):
                        self.assertNotIn(chr(37), node.value)
                for word in words_of(node):
                    self.assertNotIn(word, NEVER, name)
                    self.assertRegex(word, "^(_?[a-zA-Z][a-zA-Z0-9_]*|_|__init__)$")

    def test_calls(self):
        for name, tree in trees():
            bound = words_bound(tree)
            for node in ast.walk(tree):
                if isinstance(node, ast.Call) and isinstance(node.func, ast.Name):
                    self.assertIn(node.func.id, bound | set(BUILTINS), name)
                if isinstance(node, ast.Attribute) and isinstance(node.ctx, ast.Load):
                    self.assertIn(node.attr, METHODS, name)
            for word in bound:
                self.assertNotIn(word, BUILTINS, name)

    def test_names_in_functions_are_no_imports_and_no_classes(self):
        for name, tree in trees():
            taken = {node.name for node in tree.body if isinstance(node, ast.ClassDef)}
            for node in tree.body:
                if isinstance(node, ast.ImportFrom):
                    taken |= {alias.name for alias in node.names}
            for node in ast.walk(tree):
                if isinstance(node, ast.arg):
                    self.assertNotIn(node.arg, taken, name)
                if isinstance(node, ast.Name) and not isinstance(node.ctx, ast.Load):
                    self.assertNotIn(node.id, taken, name)

    def test_each_import_is_used(self):
        for name, tree in trees():
            read = {node.id for node in ast.walk(tree) if isinstance(node, ast.Name)}
            for node in tree.body:
                if isinstance(node, ast.ImportFrom):
                    self.assertLessEqual({alias.name for alias in node.names}, read, name)

    def test_no_two_files_import_from_each_other(self):
        wanted = {}
        for name, tree in trees():
            found = [node.module.split(".")[-1] for node in ast.walk(tree) if isinstance(node, ast.ImportFrom)]
            wanted[name[:-3]] = [file for file in found if file not in LIBRARY]
        settled = set()
        while len(settled) < len(wanted):
            ready = {file for file in wanted if set(wanted[file]) <= settled} - settled
            self.assertTrue(ready, sorted(set(wanted) - settled))
            settled |= ready

    def test_words_that_stand_nowhere(self):
        for path in PACKAGE.glob("*.py"):
            for word in ("dataclass", "overload", "contextmanager", "_wall", "_WallAttr", "metaclass=", "(type)", "Meta"):
                self.assertIsNone(re.search(re.escape(word), path.read_text("ascii")), (path.name, word))


def is_table_of(node, functions):
    """Whether the value is a dict of texts and of nothing but these functions."""
    return (
        isinstance(node, ast.Dict)
        and all(isinstance(key, ast.Constant) for key in node.keys)
        and all(isinstance(value, ast.Name) and value.id in functions for value in node.values)
    )


def defined(file):
    tree = ast.parse((PACKAGE / (file + ".py")).read_text("ascii"))
    names = {node.name for node in tree.body if isinstance(node, (ast.FunctionDef, ast.ClassDef))}
    return names | {target.id for node in tree.body if isinstance(node, ast.Assign) for target in node.targets}


def words_of(node):
    if isinstance(node, ast.Name):
        return [node.id]
    if isinstance(node, ast.arg):
        return [node.arg]
    if isinstance(node, ast.Attribute):
        return [node.attr]
    if isinstance(node, (ast.FunctionDef, ast.ClassDef)):
        return [node.name]
    return []


def words_bound(tree):
    """The names that a file gives a meaning."""
    bound = set()
    for node in ast.walk(tree):
        if isinstance(node, ast.ImportFrom):
            bound |= {alias.name for alias in node.names}
        if isinstance(node, ast.Name) and not isinstance(node.ctx, ast.Load):
            bound.add(node.id)
        if isinstance(node, (ast.arg, ast.FunctionDef, ast.ClassDef)):
            bound |= set(words_of(node))
    return bound


if __name__ == "__main__":
    unittest.main()
