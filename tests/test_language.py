"""Whether the files of the package keep the rules of LANGUAGE.md that can be seen in them with little effort."""

import ast
import pathlib
import re
import unittest

from officepapers.desk import Desk
from officepapers.live import Live

PACKAGE = pathlib.Path(__file__).resolve().parent.parent / "officepapers"
BUILTINS = """len range enumerate zip min max sum abs sorted reversed int str bool bytes list tuple dict set isinstance
ord repr any all divmod iter next map super ValueError""".split()
# An object of the package is iterated over and has a length: so nothing of itertools is used.
LIBRARY = {
    "heapq": {"heappush", "heappop", "heapify", "heapreplace", "heappushpop"},
    "math": {"gcd", "lcm", "isqrt", "comb", "perm", "factorial"},
}
# No sort, as a class of the package has a length.
METHODS = """append clear copy count endswith extend find get index insert isalnum isalpha isdigit islower isspace isupper
items join keys ljust lower lstrip partition pop remove replace reverse rfind rjust rpartition rsplit rstrip setdefault
split splitlines startswith strip update upper values zfill bit_length add discard __init__""".split()
# No name begins like this.
NOT_AHEAD = "_(wall|pe_|dcw_|enum_|cm_|twin_re_|lay_|law_|stub_|sre|cold|tuplegetter|outside|record|written_out|member_)"
OWN_SIGNS = ("__init__", "__eq__", "__len__", "__getitem__", "__iter__", "__contains__")
# What an operator, a length and a property run changes nothing: so they call no method of these, but append.
CHANGING = """clear extend insert pop remove reverse setdefault update add discard sort""".split()
NEVER = """type typing typing_extensions enum Enum IntEnum StrEnum Flag IntFlag Generic Protocol ABC ABCMeta namedtuple
NamedTuple TypedDict TYPE_CHECKING abstractmethod register mro elements open input law version_info with_traceback add_note
eval exec compile getattr setattr delattr hasattr globals locals vars dir id exit quit help gc os""".split()
NOT_ALLOWED = (
    ast.Global, ast.AsyncFunctionDef, ast.AsyncFor, ast.AsyncWith, ast.Await, ast.Import, ast.Div, ast.MatMult,
    ast.Set, ast.AnnAssign,
)


def trees():
    for path in sorted(PACKAGE.glob("*.py")):
        yield path.name, ast.parse(path.read_text("ascii"))


class Language(unittest.TestCase):
    def test_only_files_of_python(self):
        for path in PACKAGE.iterdir():
            if path.name != "__pycache__":
                self.assertRegex(path.name, "^[a-z_0-9]+[.]py$")

    def test_sizes_and_characters(self):
        for path in PACKAGE.glob("*.py"):
            lines = path.read_text("ascii").split("\n")
            self.assertLessEqual(len(lines), 400, path.name)
            for line in lines:
                self.assertLessEqual(len(line), 120, line)
                self.assertRegex(line, "^[ -~]*$")
                self.assertNotRegex(line, " $")

    def test_small_functions_without_decorators(self):
        for name, tree in trees():
            for node in ast.walk(tree):
                if isinstance(node, ast.FunctionDef):
                    self.assertLessEqual(node.end_lineno - node.lineno + 1, 40, (name, node.name))
                    if node.decorator_list:
                        self.assertEqual([ast.unparse(one) for one in node.decorator_list], ["property"])
                        self.assertEqual([one.arg for one in node.args.args], ["self"])

    def test_imports(self):
        for name, tree in trees():
            own = {path.stem for path in PACKAGE.glob("*.py")}
            for node in ast.walk(tree):
                if isinstance(node, ast.ImportFrom):
                    self.assertEqual(node.level, 0)
                    told = {alias.name for alias in node.names}
                    if node.module in LIBRARY:
                        self.assertLessEqual(told, LIBRARY[node.module], name)
                    else:
                        package, file = node.module.split(".")
                        self.assertEqual(package, "officepapers")
                        self.assertIn(file, own)
                        self.assertLessEqual(told, defined(file), name)

    def test_module_level(self):
        for name, tree in trees():
            self.assertIsInstance(tree.body[0], ast.Expr, name)
            above = set()
            for node in tree.body[1:]:
                self.assertIsInstance(node, (ast.ImportFrom, ast.FunctionDef, ast.ClassDef, ast.Assign))
                if isinstance(node, ast.FunctionDef):
                    above.add(node.name)
                if isinstance(node, ast.Assign) and not is_table_of(node.value, above):
                    ast.literal_eval(node.value)

    def test_nodes_and_names(self):
        for name, tree in trees():
            for node in ast.walk(tree):
                self.assertNotIsInstance(node, NOT_ALLOWED, name)
                if isinstance(node, ast.Constant):
                    self.assertNotIsInstance(node.value, (float, complex))
                    if isinstance(node.value, str):
                        self.assertNotIn(chr(37), node.value)
                for word in words_of(node):
                    self.assertNotIn(word, NEVER, name)
                    self.assertIsNone(re.match(NOT_AHEAD, word), name)
                    if word not in OWN_SIGNS:
                        self.assertRegex(word, "^(_?[a-zA-Z][a-zA-Z0-9_]*|_)$")

    def test_calls(self):
        own = names_of_objects()
        for name, tree in trees():
            bound = words_bound(tree)
            for node in ast.walk(tree):
                if isinstance(node, ast.Call) and isinstance(node.func, ast.Name):
                    self.assertIn(node.func.id, bound | set(BUILTINS), name)
                if isinstance(node, ast.Attribute) and isinstance(node.ctx, ast.Load):
                    self.assertIn(node.attr, METHODS + own, name)
            for word in bound:
                self.assertNotIn(word, BUILTINS, name)

    def test_what_stands_only_where_no_object_has_a_length(self):
        for name, tree in trees():
            for node in ast.walk(tree):
                self.assertNotIsInstance(node, (ast.GeneratorExp, ast.Try, ast.Match, ast.With), name)
                if isinstance(node, ast.Call) and ast.unparse(node.func) == "reversed":
                    self.assertRegex(ast.unparse(node.args[0]), "^(list|tuple|sorted|range)[(]")

    def test_what_operators_and_properties_run_changes_nothing(self):
        functions = {}
        for name, tree in trees():
            imported = {}
            for node in tree.body:
                if isinstance(node, ast.ImportFrom):
                    imported |= {alias.name: node.module.split(".")[-1] for alias in node.names}
            for node in tree.body:
                if isinstance(node, ast.FunctionDef):
                    functions[name[:-3], node.name] = (node, imported)
                if isinstance(node, ast.ClassDef):
                    for method in node.body:
                        if isinstance(method, ast.FunctionDef):
                            functions[name[:-3], method.name] = (method, imported)
        left = [key for key in functions if key[1] in OWN_SIGNS[1:] or functions[key][0].decorator_list]
        self.assertGreater(len(left), 6)
        passed = set()
        while left:
            key = left.pop()
            if key in passed:
                continue
            passed.add(key)
            node, imported = functions[key]
            self.assert_changes_nothing(node)
            for word in calls_in(node):
                if imported.get(word) == "errors":
                    continue
                if word in imported or (key[0], word) in functions:
                    left.append((imported.get(word, key[0]), word))
                else:
                    self.assertIn(word, BUILTINS + METHODS)
        self.assertIn(("houses", "way_of"), passed)

    def assert_changes_nothing(self, function):
        created = {"_"}
        for node in ast.walk(function):
            if isinstance(node, ast.Assign) and isinstance(node.value, (ast.List, ast.ListComp)):
                created |= {ast.unparse(target) for target in node.targets}
        for node in ast.walk(function):
            self.assertNotIsInstance(node, (ast.DictComp, ast.AugAssign, ast.Delete, ast.Yield), function.name)
            if isinstance(node, (ast.Attribute, ast.Subscript)):
                self.assertIsInstance(node.ctx, ast.Load, function.name)
            if isinstance(node, ast.Call) and isinstance(node.func, ast.Attribute):
                self.assertNotIn(node.func.attr, CHANGING, function.name)
                if node.func.attr == "append":
                    self.assertIn(ast.unparse(node.func.value), created, function.name)

    def test_iteration_is_of_one_statement(self):
        found = []
        for name, tree in trees():
            for node in ast.walk(tree):
                if isinstance(node, ast.FunctionDef) and node.name == "__iter__":
                    found.append(ast.unparse(node.body[-1]))
                    self.assertEqual(len(node.body), 1)
        self.assertEqual(found, ["return iter(self._log)"])

    def test_the_methods_of_the_document_stand_in_the_class_itself(self):
        methods = "wait do look undo day office lists state seen find log plan with_start copy".split()
        self.assertLessEqual({*methods, *OWN_SIGNS}, set(vars(Live)))
        self.assertIn("say", vars(Desk))
        self.assertEqual([Live.__bases__, Desk.__bases__], [(object,), (object,)])

    def test_no_name_is_a_method_and_an_attribute(self):
        methods, attributes = set(), set()
        for name, tree in trees():
            for node in ast.walk(tree):
                if isinstance(node, ast.ClassDef):
                    methods |= {one.name for one in node.body if isinstance(one, ast.FunctionDef)}
                if isinstance(node, ast.Attribute) and isinstance(node.ctx, ast.Store):
                    attributes.add(node.attr)
        self.assertEqual(methods & attributes, set())

    def test_names_in_functions_are_no_imports_and_no_classes(self):
        for name, tree in trees():
            taken = {node.name for node in tree.body if isinstance(node, ast.ClassDef)}
            for node in tree.body:
                if isinstance(node, ast.ImportFrom):
                    taken |= {alias.name for alias in node.names}
            for node in ast.walk(tree):
                if isinstance(node, ast.arg):
                    self.assertNotIn(node.arg, taken, name)
                if isinstance(node, ast.Name) and not isinstance(node.ctx, ast.Load):
                    self.assertNotIn(node.id, taken, name)

    def test_each_import_is_used(self):
        for name, tree in trees():
            read = {node.id for node in ast.walk(tree) if isinstance(node, ast.Name)}
            for node in tree.body:
                if isinstance(node, ast.ImportFrom):
                    self.assertLessEqual({alias.name for alias in node.names}, read, name)

    def test_no_two_files_import_from_each_other(self):
        wanted = {}
        for name, tree in trees():
            found = [node.module.split(".")[-1] for node in ast.walk(tree) if isinstance(node, ast.ImportFrom)]
            wanted[name[:-3]] = [file for file in found if file not in LIBRARY]
        settled = set()
        while len(settled) < len(wanted):
            ready = {file for file in wanted if set(wanted[file]) <= settled} - settled
            self.assertTrue(ready, sorted(set(wanted) - settled))
            settled |= ready

    def test_words_that_stand_nowhere(self):
        for path in PACKAGE.glob("*.py"):
            for word in ("dataclass", "overload", "contextmanager", "_wall", "_WallAttr", "metaclass=", "(type)", "Meta"):
                self.assertIsNone(re.search(re.escape(word), path.read_text("ascii")), (path.name, word))


def is_table_of(node, functions):
    """Whether the value is a dict of texts and of nothing but these functions."""
    return (
        isinstance(node, ast.Dict)
        and all(isinstance(key, ast.Constant) for key in node.keys)
        and all(isinstance(value, ast.Name) and value.id in functions for value in node.values)
    )


def defined(file):
    tree = ast.parse((PACKAGE / (file + ".py")).read_text("ascii"))
    names = {node.name for node in tree.body if isinstance(node, (ast.FunctionDef, ast.ClassDef))}
    return names | {target.id for node in tree.body if isinstance(node, ast.Assign) for target in node.targets}


def names_of_objects():
    """The list of the methods, properties and attributes of the package's own objects."""
    found = set()
    for name, tree in trees():
        for node in ast.walk(tree):
            if isinstance(node, ast.ClassDef):
                found |= {one.name for one in node.body if isinstance(one, ast.FunctionDef)}
            if isinstance(node, ast.Attribute) and isinstance(node.ctx, ast.Store):
                found.add(node.attr)
    return sorted(found)


def calls_in(function):
    """The names of the functions and methods that the function calls."""
    found = set()
    for node in ast.walk(function):
        if isinstance(node, ast.Call):
            found.add(node.func.attr if isinstance(node.func, ast.Attribute) else ast.unparse(node.func))
    return found


def words_of(node):
    if isinstance(node, ast.Name):
        return [node.id]
    if isinstance(node, ast.arg):
        return [node.arg]
    if isinstance(node, ast.Attribute):
        return [node.attr]
    if isinstance(node, (ast.FunctionDef, ast.ClassDef)):
        return [node.name]
    return []


def words_bound(tree):
    """The names that a file gives a meaning."""
    bound = set()
    for node in ast.walk(tree):
        if isinstance(node, ast.ImportFrom):
            bound |= {alias.name for alias in node.names}
        if isinstance(node, ast.Name) and not isinstance(node.ctx, ast.Load):
            bound.add(node.id)
        if isinstance(node, (ast.arg, ast.FunctionDef, ast.ClassDef)):
            bound |= set(words_of(node))
    return bound


if __name__ == "__main__":
    unittest.main()
