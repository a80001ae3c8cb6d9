"""The form of the package's files: those rules of the language that a look at each file can tell."""
import ast
import builtins
import os
import re
import unittest

ROOT = os.path.dirname(os.path.dirname(os.path.abspath(__file__)))
PACKAGE = os.path.join(ROOT, "heednets")
LIBRARY = {
    "math": {"gcd", "lcm", "isqrt", "comb", "perm", "factorial"},
    "heapq": {"heappush", "heappop", "heapify", "heapreplace", "heappushpop"},
    "itertools": {"product", "combinations", "permutations", "chain", "accumulate", "pairwise", "islice",
                  "zip_longest"},
    "collections": {"defaultdict"},
}
BUILTINS = set(
    "len range enumerate zip map min max sum abs sorted reversed int str bool bytes list tuple dict set frozenset "
    "isinstance ord repr any all divmod pow iter next super getattr hasattr setattr Exception ValueError TypeError "
    "KeyError IndexError LookupError ZeroDivisionError ArithmeticError OverflowError RuntimeError "
    "NotImplementedError AttributeError StopIteration NotImplemented".split())
METHODS = set(
    "append clear copy count endswith extend find get index insert isalnum isalpha isdigit islower isspace isupper "
    "items join keys ljust lower lstrip partition pop remove replace reverse rfind rjust rpartition rsplit rstrip "
    "setdefault split splitlines startswith strip update upper values zfill bit_length add discard sort __init__ "
    "isascii isdecimal removeprefix removesuffix".split())
# These words are barred in strings, too; the names below only as names.
WORDS = ("type", "typing", "typing_extensions", "enum", "Enum", "IntEnum", "StrEnum", "Flag", "IntFlag", "Generic",
         "Protocol", "ABC", "ABCMeta", "namedtuple", "NamedTuple", "TypedDict", "TYPE_CHECKING", "abstractmethod")
BARRED = WORDS + ("register", "mro", "elements", "open", "input", "law", "version_info", "with_traceback", "add_note")
# The document has a function and a parameter of another one with this name in one file.
NAMED_TWICE = (("films.py", "drawing"),)
STATEMENTS = (ast.Global, ast.AsyncFor, ast.AsyncFunctionDef, ast.AsyncWith, ast.Await, ast.TryStar)


def package_files():
    found = []
    for folder, folders, names in os.walk(PACKAGE):
        folders[:] = sorted(name for name in folders if name != "__pycache__")
        found.extend(os.path.join(folder, name) for name in sorted(names))
    return found


def module_name(path):
    told = os.path.relpath(path, ROOT)[:-3].replace(os.sep, ".")
    return told[:-len(".__init__")] if told.endswith(".__init__") else told


class Form(unittest.TestCase):
    def setUp(self):
        self.texts = {}
        for path in package_files():
            with open(path, encoding="utf-8") as file:
                self.texts[path] = file.read()
        self.trees = {path: ast.parse(text) for path, text in self.texts.items()}

    def nodes(self, *kinds):
        for path, tree in self.trees.items():
            for node in ast.walk(tree):
                if isinstance(node, kinds):
                    yield os.path.basename(path), node

    def test_files(self):
        for path, text in self.texts.items():
            self.assertRegex(os.path.basename(path), r"^[a-z0-9_]+\.py$")
            self.assertIsNone(re.search(r"[^ -~\n]", text), path)
            lines = text.split("\n")
            self.assertLess(len(lines), 401, path)
            self.assertLess(max(map(len, lines)), 121, path)
        self.assertTrue(os.path.exists(os.path.join(PACKAGE, "__init__.py")))

    def test_functions_are_short(self):
        for name, node in self.nodes(ast.FunctionDef):
            self.assertLess(node.end_lineno - node.lineno, 40, (name, node.name))
            self.assertEqual(node.decorator_list, [], (name, node.name))

    def test_imports(self):
        defined = {}
        for path, tree in self.trees.items():
            defined[module_name(path)] = {
                target.id for node in tree.body if isinstance(node, ast.Assign) for target in node.targets} | {
                node.name for node in tree.body if isinstance(node, (ast.FunctionDef, ast.ClassDef))}
        for name, node in self.nodes(ast.Import):
            self.fail((name, ast.unparse(node)))
        for name, node in self.nodes(ast.ImportFrom):
            self.assertEqual(node.level, 0)
            allowed = LIBRARY.get(node.module) or defined[node.module]
            for told in node.names:
                self.assertIn(told.name, allowed, name)
                self.assertIsNone(told.asname)

    def test_no_files_import_from_each_other(self):
        imports = {module_name(path): {node.module for node in tree.body if isinstance(node, ast.ImportFrom)}
                   for path, tree in self.trees.items()}
        waiting = dict(imports)
        while waiting:
            free = [name for name, needs in waiting.items() if not needs & set(waiting)]
            self.assertTrue(free, waiting)
            for name in free:
                del waiting[name]

    def test_all_imports_are_used(self):
        for path, tree in self.trees.items():
            used = {node.id for node in ast.walk(tree) if isinstance(node, ast.Name)}
            for node in tree.body:
                if isinstance(node, ast.ImportFrom):
                    for told in node.names:
                        self.assertIn(told.name, used, path)

    def test_module_level(self):
        for path, tree in self.trees.items():
            for node in tree.body[1:]:
                self.assertIsInstance(node, (ast.ImportFrom, ast.FunctionDef, ast.ClassDef, ast.Assign), path)
            self.assertIsNotNone(ast.get_docstring(tree), path)

    def test_statements_and_expressions(self):
        for name, node in self.nodes(*STATEMENTS):
            self.fail((name, node))
        for name, node in self.nodes(ast.BinOp, ast.AugAssign):
            self.assertNotIsInstance(node.op, (ast.Div, ast.MatMult), name)
            if isinstance(node.op, ast.Pow):
                self.assertIsInstance(node.right, ast.Constant, name)
        for name, node in self.nodes(ast.Constant):
            self.assertNotIsInstance(node.value, (float, complex), name)
            if isinstance(node.value, str):
                self.assertNotIn("%", node.value, name)
        for name, node in self.nodes(ast.Compare):
            for sign, side in zip(node.ops, node.comparators):
                if isinstance(sign, (ast.Is, ast.IsNot)):
                    self.assertIn(ast.unparse(side), ("None", "True", "False"), name)

    def test_names(self):
        for path, tree in self.trees.items():
            for node in ast.walk(tree):
                for word in bound_names(node):
                    self.assertRegex(word, r"^(_|_?[A-Za-z][A-Za-z0-9_]*|__init__)$", path)
                    self.assertNotIn(word, vars(builtins), path)
                    self.assertNotIn(word, BARRED, path)
                if isinstance(node, ast.Name) and node.id in vars(builtins):
                    self.assertIn(node.id, BUILTINS, path)

    def test_no_local_has_the_name_of_what_stands_at_module_level(self):
        for path, tree in self.trees.items():
            top = [word for node in tree.body for word in bound_names(node)]
            self.assertEqual(len(top), len(set(top)), path)
            for node in tree.body:
                if isinstance(node, (ast.FunctionDef, ast.ClassDef)):
                    for inner in list(ast.walk(node))[1:]:
                        for word in bound_names(inner):
                            if (os.path.basename(path), word) not in NAMED_TWICE:
                                self.assertNotIn(word, top, (path, node.name))

    def test_methods_of_values(self):
        for name, node in self.nodes(ast.Call):
            if isinstance(node.func, ast.Attribute):
                self.assertIn(node.func.attr, METHODS, name)

    def test_words_in_strings(self):
        for path, tree in self.trees.items():
            told = {id(node.body[0].value) for node in ast.walk(tree)
                    if isinstance(node, (ast.Module, ast.FunctionDef, ast.ClassDef)) and ast.get_docstring(node)}
            for node in ast.walk(tree):
                if isinstance(node, ast.Constant) and isinstance(node.value, str) and id(node) not in told:
                    for word in re.findall(r"\w+", node.value):
                        self.assertNotIn(word, WORDS, path)


def bound_names(node):
    """The names that a node binds, imports included."""
    if isinstance(node, (ast.FunctionDef, ast.ClassDef)):
        return [node.name]
    if isinstance(node, ast.arg):
        return [node.arg]
    if isinstance(node, ast.Name) and isinstance(node.ctx, ast.Store):
        return [node.id]
    if isinstance(node, ast.ImportFrom):
        return [told.name for told in node.names]
    if isinstance(node, ast.Assign):
        return [target.id for target in node.targets if isinstance(target, ast.Name)]
    return []


if __name__ == "__main__":
    unittest.main()
