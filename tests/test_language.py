"""The rules for the language, as far as a short program can see them (L1 to L27)."""

import ast
import builtins
import pathlib
import re
import unittest

PACKAGE = pathlib.Path(__file__).resolve().parent.parent / "topiary"
FILES = sorted(PACKAGE.rglob("*.py"))

ALLOWED_BUILTINS = set(
    "len range enumerate zip min max sum abs sorted reversed int str bool bytes list tuple dict set frozenset "
    "isinstance ord repr any all divmod pow map iter next super Exception ValueError TypeError KeyError IndexError "
    "LookupError ZeroDivisionError ArithmeticError OverflowError RuntimeError NotImplementedError "
    "AttributeError StopIteration NotImplemented".split()
)
ALLOWED_METHODS = set(
    "append clear copy count endswith extend find get index insert isalnum isalpha isdigit islower isspace "
    "isupper items join keys ljust lower lstrip partition pop remove replace reverse rfind rjust rpartition "
    "rsplit rstrip setdefault split splitlines startswith strip update upper values zfill bit_length sort "
    "encode decode hex fromhex to_bytes from_bytes title capitalize center removeprefix removesuffix "
    "add discard __init__".split()
)
ALLOWED_SPECIAL = {"__init__", "__eq__", "__repr__", "__str__", "__len__"}
BARRED_NAMES = {"register", "mro", "elements", "open", "input", "law", "eval", "exec", "globals", "locals", "vars"}
BARRED_WORDS = re.compile(r"\b(type|typing|enum|Enum|namedtuple|NamedTuple|ABC|Generic|Protocol)\b|dataclass|overload")
BARRED_NODES = (
    ast.AsyncFunctionDef, ast.AsyncFor, ast.AsyncWith, ast.Await, ast.Global, ast.Import, ast.Div,
    ast.Set, ast.Yield, ast.YieldFrom, ast.NamedExpr,
)
LIBRARY = {"heapq", "math", "itertools", "collections"}


def tree_of(path):
    return ast.parse(path.read_text(encoding="utf-8"))


def own_names(kind):
    return {node.name for path in FILES for node in ast.walk(tree_of(path)) if isinstance(node, kind)}


def bound_names(tree):
    """All names that a file gives to something."""
    names = []
    for node in ast.walk(tree):
        if isinstance(node, (ast.FunctionDef, ast.ClassDef)):
            names.append(node.name)
        elif isinstance(node, ast.arg):
            names.append(node.arg)
        elif isinstance(node, ast.Name) and isinstance(node.ctx, ast.Store):
            names.append(node.id)
        elif isinstance(node, ast.alias):
            names.append(node.asname or node.name)
    return names


def docstrings(tree):
    kinds = (ast.Module, ast.FunctionDef, ast.ClassDef)
    return {id(node.body[0].value) for node in ast.walk(tree) if isinstance(node, kinds) and ast.get_docstring(node)}


def is_plain(node):
    """True for what may be assigned at module level."""
    if isinstance(node, (ast.List, ast.Tuple)):
        return all(is_plain(item) for item in node.elts)
    if isinstance(node, ast.Dict):
        return all(is_plain(item) for item in node.keys + node.values)
    if isinstance(node, ast.UnaryOp):
        return is_plain(node.operand)
    if isinstance(node, ast.BinOp):
        return is_plain(node.left) and is_plain(node.right)
    return isinstance(node, (ast.Constant, ast.Name))


def stands_at_module_level(node):
    if isinstance(node, ast.Assign):
        return len(node.targets) == 1 and isinstance(node.targets[0], ast.Name) and is_plain(node.value)
    if isinstance(node, ast.Expr):
        return isinstance(node.value, ast.Constant) and isinstance(node.value.value, str)
    return isinstance(node, (ast.ImportFrom, ast.FunctionDef, ast.ClassDef))


def all_reached(imports, start):
    """All files that a file imports, by others too."""
    found = set()
    waiting = [start]
    while waiting:
        for stem in imports.get(waiting.pop(), []):
            if stem not in found:
                found.add(stem)
                waiting.append(stem)
    return found


class LanguageTest(unittest.TestCase):
    def each_file(self):
        for path in FILES:
            with self.subTest(path.name):
                yield path, tree_of(path)

    def each_node(self, *kinds):
        for _, tree in self.each_file():
            for node in ast.walk(tree):
                if isinstance(node, kinds):
                    yield node

    def test_files(self):
        others = [path for path in PACKAGE.rglob("*") if path.suffix not in (".py", ".pyc") and path.is_file()]
        self.assertEqual(others, [])
        self.assertTrue(0 < len(FILES) <= 100)
        for path in FILES:
            self.assertRegex(path.stem, r"^([a-z][a-z0-9_]*|__init__|__main__)$")
            self.assertNotIn(path.stem, dir(builtins))

    def test_characters_and_sizes(self):
        for path, tree in self.each_file():
            text = path.read_bytes()
            self.assertTrue(all(32 <= code <= 126 or code == 10 for code in text))
            lines = text.decode("ascii").split("\n")
            self.assertLessEqual(len(lines) - 1, 399)
            self.assertLessEqual(max(map(len, lines)), 120)
            for node in ast.walk(tree):
                if isinstance(node, ast.FunctionDef):
                    self.assertLessEqual(node.end_lineno - node.lineno + 1, 40, node.name)

    def test_module_level(self):
        for _, tree in self.each_file():
            for node in tree.body:
                self.assertTrue(stands_at_module_level(node), ast.unparse(node))
            names = [node.name for node in tree.body if isinstance(node, (ast.FunctionDef, ast.ClassDef))]
            self.assertEqual(len(names), len(set(names)))

    def test_imports(self):
        reached = {}
        for path, tree in self.each_file():
            imports = [node for node in ast.walk(tree) if isinstance(node, ast.ImportFrom)]
            reached[path.stem] = [node.module.rpartition(".")[2] for node in imports]
            for node in imports:
                self.assertIn(node, tree.body)
                self.assertEqual(node.level, 0)
                if node.module in LIBRARY:
                    continue
                self.assertRegex(node.module, r"^topiary\.")
                source = tree_of(PACKAGE / (node.module.partition(".")[2] + ".py"))
                found = bound_names(ast.Module(source.body, []))
                for alias in node.names:
                    self.assertIn(alias.name, found)
                    self.assertIsNone(alias.asname)
        for stem in reached:
            self.assertNotIn(stem, all_reached(reached, stem))

    def test_statements_and_values(self):
        for _, tree in self.each_file():
            for node in ast.walk(tree):
                self.assertNotIsInstance(node, BARRED_NODES)
                if isinstance(node, ast.FunctionDef):
                    self.assertEqual(node.decorator_list, [])
                if isinstance(node, ast.Constant):
                    self.assertNotIsInstance(node.value, (float, complex))
                    if isinstance(node.value, str) and id(node) not in docstrings(tree):
                        self.assertNotIn("%", node.value)
                        self.assertIsNone(BARRED_WORDS.search(node.value))

    def test_comparisons_by_is(self):
        for node in self.each_node(ast.Compare):
            for operator, other in zip(node.ops, node.comparators):
                if isinstance(operator, (ast.Is, ast.IsNot)):
                    self.assertIn(ast.unparse(other), ("None", "True", "False"))

    def test_names(self):
        for _, tree in self.each_file():
            imported = {alias.name for node in tree.body if isinstance(node, ast.ImportFrom) for alias in node.names}
            names = bound_names(tree)
            for name in names:
                self.assertNotIn(name, dir(builtins))
                self.assertNotIn(name, BARRED_NAMES)
                self.assertTrue(not name.startswith("__") or name in ALLOWED_SPECIAL, name)
                self.assertIsNone(BARRED_WORDS.fullmatch(name))
            for name in imported | {node.name for node in tree.body if isinstance(node, ast.ClassDef)}:
                self.assertEqual(names.count(name), 1, name)
        for node in self.each_node(ast.ClassDef):
            self.assertRegex(node.name, "^[A-Z]")

    def test_builtins(self):
        for node in self.each_node(ast.Name):
            if isinstance(node.ctx, ast.Load) and node.id in dir(builtins):
                self.assertIn(node.id, ALLOWED_BUILTINS)

    def test_methods(self):
        own = own_names(ast.FunctionDef)
        for node in self.each_node(ast.Call):
            if isinstance(node.func, ast.Attribute):
                self.assertIn(node.func.attr, ALLOWED_METHODS | own)

    def test_methods_and_attributes_do_not_share_names_in_a_class(self):
        for node in self.each_node(ast.ClassDef):
            methods = [item.name for item in node.body if isinstance(item, ast.FunctionDef)]
            self.assertEqual(len(methods), len(set(methods)))
            for part in ast.walk(node):
                if isinstance(part, ast.Attribute) and isinstance(part.ctx, ast.Store):
                    self.assertNotIn(part.attr, methods)

    def test_handlers_name_errors(self):
        for node in self.each_node(ast.ExceptHandler):
            self.assertIsNotNone(node.type)
            self.assertNotIn(ast.unparse(node.type), ("Exception", "TypeError", "AttributeError", "RuntimeError"))


if __name__ == "__main__":
    unittest.main()
