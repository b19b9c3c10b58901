"""The rules of the program's Python subset that can be read off the source."""

import ast
import builtins
import io
import os
import tokenize
import unittest

ROOT = os.path.dirname(os.path.dirname(os.path.abspath(__file__)))
PACKAGE = "segmentfs"
LIBRARY = {
    "heapq": "heappush heappop heapify heapreplace heappushpop", "math": "gcd lcm isqrt comb perm factorial",
    "itertools": "product combinations permutations chain accumulate pairwise islice zip_longest",
    "collections": "defaultdict", "__future__": "annotations",
}
BUILTINS = set((
    "len range enumerate zip min max sum abs sorted reversed int str bool list tuple dict set isinstance ord repr "
    "any all divmod pow getattr hasattr setattr iter next map super property staticmethod classmethod Exception "
    "ValueError TypeError KeyError IndexError LookupError ZeroDivisionError ArithmeticError OverflowError "
    "RuntimeError NotImplementedError AttributeError StopIteration NotImplemented").split())
METHODS = set((
    "append clear copy count endswith extend find get index insert isalnum isalpha isdigit islower isspace isupper "
    "items join keys ljust lower lstrip partition pop remove replace reverse rfind rjust rpartition rsplit rstrip "
    "setdefault split splitlines startswith strip update upper values zfill bit_length add discard sort __init__"
    ).split())
BARRED_NAMES = set((
    "register mro elements open input law version_info with_traceback add_note attrgetter breakpoint builtins "
    "compile copyright credits delattr dir eval exec exit gc globals help id importlib license locals methodcaller "
    "os quit type vars sys").split())
BARRED_WORDS = set((
    "type typing typing_extensions enum Enum IntEnum StrEnum Flag IntFlag Generic Protocol ABC ABCMeta namedtuple "
    "NamedTuple TypedDict TYPE_CHECKING abstractmethod").split())
STATEMENTS_BARRED = (ast.Global, ast.Import, ast.AsyncFunctionDef, ast.AsyncFor, ast.AsyncWith, ast.Await)


def source_files():
    """Return the path and the text of each file of the package."""
    found = []
    for folder, folders, files in os.walk(os.path.join(ROOT, PACKAGE)):
        folders[:] = sorted(name for name in folders if name != "__pycache__")
        for name in sorted(files):
            path = os.path.join(folder, name)
            with open(path, encoding="utf-8") as handle:
                found.append((os.path.relpath(path, ROOT), handle.read()))
    return found


def module_name(path):
    name = path[:-3].replace(os.sep, ".")
    return name[:-9] if name.endswith(".__init__") else name


class LanguageTest(unittest.TestCase):
    @classmethod
    def setUpClass(cls):
        cls.files = source_files()
        cls.trees = {path: ast.parse(text) for path, text in cls.files if path.endswith(".py")}

    def nodes(self):
        for path, tree in self.trees.items():
            for node in ast.walk(tree):
                yield f"{path}:{getattr(node, 'lineno', 0)}", node

    def test_files_and_characters(self):
        self.assertLessEqual(len(self.files), 100)
        for path, text in self.files:
            self.assertRegex(path, r"^[a-z0-9_/]+\.py$")
            self.assertTrue(os.path.exists(os.path.join(ROOT, os.path.dirname(path), "__init__.py")))
            self.assertFalse(os.path.isdir(os.path.join(ROOT, path[:-3])), path)
            self.assertTrue(all(sign == "\n" or " " <= sign <= "~" for sign in text), path)
            lines = text.split("\n")
            self.assertLessEqual(len(lines) - 1, 399, path)
            self.assertLessEqual(max(len(line) for line in lines), 120, path)

    def test_functions_have_at_most_40_lines(self):
        for place, node in self.nodes():
            if isinstance(node, ast.FunctionDef):
                self.assertLessEqual(node.end_lineno - node.lineno + 1, 40, place)

    def test_imports_name_the_file_that_defines_the_name(self):
        for path, tree in self.trees.items():
            for node in tree.body:
                if isinstance(node, ast.ImportFrom):
                    self.check_import(path, node)
        for place, node in self.nodes():
            self.assertNotIsInstance(node, ast.Import, place)

    def check_import(self, path, node):
        self.assertEqual(node.level, 0, path)
        for alias in node.names:
            if node.module in LIBRARY:
                self.assertIn(alias.name, LIBRARY[node.module].split(), path)
                continue
            home = node.module.replace(".", os.sep) + ".py"
            self.assertIn(home, self.trees, path)
            self.assertIn(alias.name, self.bound_names(home), f"{path}: {alias.name} of {home}")

    def bound_names(self, path):
        names = []
        for node in self.trees[path].body:
            if isinstance(node, (ast.FunctionDef, ast.ClassDef)):
                names.append(node.name)
            elif isinstance(node, ast.Assign):
                names.extend(target.id for target in node.targets)
        self.assertEqual(len(names), len(set(names)), path)
        return names

    def test_no_circle_of_imports(self):
        uses = {}
        for path, tree in self.trees.items():
            modules = [node.module for node in tree.body if isinstance(node, ast.ImportFrom)]
            uses[module_name(path)] = [name for name in modules if name not in LIBRARY]
        while uses:
            free = [name for name, used in uses.items() if not any(other in uses for other in used)]
            self.assertTrue(free, sorted(uses))
            for name in free:
                del uses[name]

    def test_module_level(self):
        for path, tree in self.trees.items():
            for node in tree.body:
                docstring = isinstance(node, ast.Expr) and isinstance(node.value, ast.Constant)
                allowed = isinstance(node, (ast.ImportFrom, ast.FunctionDef, ast.ClassDef, ast.Assign))
                self.assertTrue(docstring or allowed, f"{path}:{node.lineno}")
                if isinstance(node, ast.Assign):
                    self.assertIsInstance(node.targets[0], ast.Name)
                    self.assertEqual(len(node.targets), 1)

    def test_statements_and_values(self):
        for place, node in self.nodes():
            self.assertNotIsInstance(node, STATEMENTS_BARRED, place)
            self.assertNotIsInstance(node, ast.Div, place)
            self.assertNotIsInstance(getattr(node, "value", None), (float, complex), place)
            if isinstance(node, ast.FunctionDef):
                for decorator in node.decorator_list:
                    name = decorator.attr if isinstance(decorator, ast.Attribute) else decorator.id
                    self.assertIn(name, ("property", "setter", "staticmethod", "classmethod"), place)
            if isinstance(node, ast.ClassDef):
                self.assertEqual(node.decorator_list, [], place)
            if isinstance(node, ast.ExceptHandler):
                self.assertIsNotNone(node.type, place)

    def test_builtins_are_those_of_the_subset(self):
        known = set(dir(builtins))
        for place, node in self.nodes():
            if isinstance(node, ast.Name) and isinstance(node.ctx, ast.Load) and node.id in known:
                self.assertIn(node.id, BUILTINS, place)

    def test_names_do_not_hide_others(self):
        known = set(dir(builtins)) | BARRED_NAMES
        for place, node in self.nodes():
            for name in self.names_made_by(node):
                self.assertNotIn(name, known, place)
                self.assertFalse(name.startswith("__"), place)

    def names_made_by(self, node):
        if isinstance(node, ast.Name) and isinstance(node.ctx, ast.Store):
            return [node.id]
        if isinstance(node, ast.arg):
            return [node.arg]
        if isinstance(node, ast.ClassDef):
            return [node.name]
        if isinstance(node, ast.FunctionDef) and not node.name.startswith("__"):
            return [node.name]
        return []

    def test_locals_do_not_have_names_of_classes_and_imports(self):
        for path, tree in self.trees.items():
            barred = []
            for node in tree.body:
                if isinstance(node, ast.ImportFrom):
                    barred.extend(alias.name for alias in node.names)
                elif isinstance(node, ast.ClassDef):
                    barred.append(node.name)
            for node in ast.walk(tree):
                if isinstance(node, (ast.Name, ast.arg)):
                    for name in self.names_made_by(node):
                        self.assertNotIn(name, barred, f"{path}:{node.lineno}")

    def test_methods_of_builtin_values_are_those_of_the_subset(self):
        own = set(METHODS)
        for _, node in self.nodes():
            if isinstance(node, ast.FunctionDef):
                own.add(node.name)
        for place, node in self.nodes():
            if isinstance(node, ast.Call) and isinstance(node.func, ast.Attribute):
                self.assertIn(node.func.attr, own, place)

    def test_generators_have_names_of_their_own(self):
        names = [node.name for _, node in self.nodes() if isinstance(node, ast.FunctionDef)]
        for place, node in self.nodes():
            if isinstance(node, ast.FunctionDef) and any(
                    isinstance(inner, (ast.Yield, ast.YieldFrom)) for inner in ast.walk(node)):
                self.assertEqual(names.count(node.name), 1, place)

    def test_sets_are_not_iterated_or_passed_on(self):
        for place, node in self.nodes():
            if isinstance(node, (ast.For, ast.comprehension)):
                call = isinstance(node.iter, ast.Call) and getattr(node.iter.func, "id", "") == "set"
                self.assertFalse(call or isinstance(node.iter, (ast.Set, ast.SetComp)), place)

    def test_strings_and_words(self):
        for path, text in self.files:
            for token in tokenize.generate_tokens(io.StringIO(text).readline):
                place = f"{path}:{token.start[0]}"
                if token.type == tokenize.STRING:
                    self.assertNotIn(chr(37), token.string, place)
                    self.assertNotRegex(token.string, r"(?<!\\)(\\\\)*\\[^nt\\'\"]", place)
                if token.type == tokenize.NAME:
                    self.assertNotIn(token.string, BARRED_WORDS, place)
                self.assertNotIn("_wall", token.string, place)


if __name__ == "__main__":
    unittest.main()
