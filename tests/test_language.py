"""The package keeps the plainest of the rules for its subset of the language."""

import ast
import builtins
import pathlib
import re
import unittest

PACKAGE = pathlib.Path(__file__).resolve().parent.parent / "linkwork"

LIBRARY = {"math": {"gcd", "lcm"}, "itertools": {"combinations"}}
BUILTINS = {
    "len", "range", "enumerate", "zip", "min", "max", "sum", "abs", "sorted", "reversed", "int", "str", "bool", "list",
    "tuple", "dict", "set", "isinstance", "ord", "any", "all", "divmod", "ValueError", "NotImplemented",
}
METHODS = {
    "append", "clear", "copy", "count", "endswith", "extend", "find", "get", "index", "insert", "isalnum", "isalpha",
    "isdigit", "islower", "isspace", "isupper", "items", "join", "keys", "ljust", "lower", "lstrip", "partition", "pop",
    "remove", "replace", "reverse", "rfind", "rjust", "rpartition", "rsplit", "rstrip", "setdefault", "split",
    "splitlines", "startswith", "strip", "update", "upper", "values", "zfill", "bit_length", "isascii", "removeprefix",
    "removesuffix",
}
DOUBLE = {"__init__", "__eq__", "__add__", "__sub__", "__mul__", "__neg__"}
STATEMENTS = (
    ast.Assign, ast.AugAssign, ast.If, ast.While, ast.For, ast.Return, ast.Break, ast.Continue, ast.Pass, ast.Raise,
    ast.Expr, ast.FunctionDef, ast.ClassDef, ast.ImportFrom, ast.Try, ast.Delete, ast.Assert,
)
UNUSED_NAMES = {
    "register", "mro", "elements", "open", "input", "law", "version_info", "with_traceback", "add_note", "type",
}
UNUSED_WORDS = re.compile(
    r"\b(typing|enum|Enum|Generic|Protocol|ABC|namedtuple|NamedTuple|TypedDict|type)\b"
    r"|dataclass|overload|contextmanager"
)
HARD_NODES = (
    ast.AsyncFunctionDef, ast.Await, ast.Yield, ast.YieldFrom, ast.Global, ast.GeneratorExp, ast.SetComp, ast.Lambda,
    ast.Div, ast.MatMult, ast.NamedExpr, ast.With, ast.Match, ast.AnnAssign,
)


def files():
    return {path.stem: path.read_text(encoding="utf-8") for path in sorted(PACKAGE.glob("*.py"))}


def bound_names(tree):
    """All names that are bound anywhere in a file, attributes left out."""
    for node in ast.walk(tree):
        if isinstance(node, (ast.FunctionDef, ast.ClassDef)):
            yield node.name
        elif isinstance(node, ast.arg):
            yield node.arg
        elif isinstance(node, ast.Name) and isinstance(node.ctx, ast.Store):
            yield node.id
        elif isinstance(node, ast.alias):
            yield node.asname or node.name
        elif isinstance(node, ast.ExceptHandler) and node.name:
            yield node.name


def top_names(tree):
    """The names that are bound at module level, imports left out."""
    for node in tree.body:
        if isinstance(node, (ast.FunctionDef, ast.ClassDef)):
            yield node.name
        elif isinstance(node, ast.Assign):
            yield from [target.id for target in node.targets]


class RuleTest(unittest.TestCase):
    def setUp(self):
        self.texts = files()
        self.trees = {name: ast.parse(text) for name, text in self.texts.items()}

    def nodes(self, *kinds):
        for name, tree in self.trees.items():
            for node in ast.walk(tree):
                if isinstance(node, kinds):
                    yield f"{name}:{getattr(node, 'lineno', 0)}", node

    def test_the_folder_contains_python_files_only(self):
        for path in PACKAGE.iterdir():
            self.assertTrue(path.name == "__pycache__" or re.fullmatch(r"[a-z_]+\.py", path.name), path)

    def test_sizes_and_characters(self):
        for name, text in self.texts.items():
            lines = text.splitlines()
            self.assertLess(len(lines), 400, name)
            self.assertLessEqual(max(map(len, lines)), 120, name)
            self.assertIsNone(re.search(r"[^\n -~]", text), name)
        for place, node in self.nodes(ast.FunctionDef):
            self.assertLessEqual(node.end_lineno - node.lineno + 1, 40, place)

    def test_statements_and_expressions(self):
        for place, node in self.nodes(ast.stmt):
            self.assertIsInstance(node, STATEMENTS, place)
        for place, node in self.nodes(*HARD_NODES):
            self.fail(f"{place}: {node.__class__.__name__}")
        for place, node in self.nodes(ast.FunctionDef, ast.ClassDef):
            self.assertEqual(node.decorator_list, [], place)

    def test_module_level(self):
        for name, tree in self.trees.items():
            self.assertEqual(len(set(top_names(tree))), len(list(top_names(tree))), name)
            for node in tree.body:
                plain = isinstance(node, (ast.ImportFrom, ast.FunctionDef, ast.ClassDef, ast.Assign))
                self.assertTrue(plain or node is tree.body[0] and isinstance(node, ast.Expr), f"{name}:{node.lineno}")

    def test_imports(self):
        for place, node in self.nodes(ast.ImportFrom):
            names = {alias.name for alias in node.names}
            self.assertFalse([alias for alias in node.names if alias.asname], place)
            if node.module in LIBRARY:
                self.assertLessEqual(names, LIBRARY[node.module], place)
            else:
                package, _, module = node.module.partition(".")
                self.assertEqual(package, "linkwork", place)
                self.assertLessEqual(names, set(top_names(self.trees[module])), place)

    def test_no_two_files_import_from_each_other(self):
        needs = {name: {node.module.partition(".")[2] for node in tree.body if isinstance(node, ast.ImportFrom)}
                 & set(self.trees) for name, tree in self.trees.items()}
        while needs:
            free = [name for name in needs if not needs[name] & set(needs)]
            self.assertNotEqual(free, [], needs)
            needs = {name: needs[name] for name in needs if name not in free}

    def test_every_import_and_helper_is_used(self):
        for name, tree in self.trees.items():
            used = {node.id for node in ast.walk(tree) if isinstance(node, ast.Name) and isinstance(node.ctx, ast.Load)}
            imported = {alias.name for node in tree.body if isinstance(node, ast.ImportFrom) for alias in node.names}
            helpers = {word for word in top_names(tree) if word.startswith("_")}
            self.assertEqual((imported | helpers) - used, set(), name)

    def test_names(self):
        for name, tree in self.trees.items():
            outer = {node.name for node in tree.body if isinstance(node, ast.ClassDef)}
            outer |= {alias.name for node in tree.body if isinstance(node, ast.ImportFrom) for alias in node.names}
            for word in bound_names(tree):
                self.assertRegex(word, r"^_?[A-Za-z]\w*$|^_$|^__[a-z]+__$", name)
                self.assertTrue(word in DOUBLE or word == "_" or not hasattr(builtins, word), f"{name}: {word}")
                self.assertNotIn(word, UNUSED_NAMES, name)
            for node in ast.walk(tree):
                if isinstance(node, ast.FunctionDef):
                    inner = {word for part in node.body + [node.args] for word in bound_names(part)}
                    self.assertEqual(inner & outer, set(), f"{name}: {node.name}")
                self.assertFalse(isinstance(node, ast.Name) and node.id == "_" and isinstance(node.ctx, ast.Load), name)

    def test_builtins_and_methods(self):
        methods = {node.name for _, node in self.nodes(ast.FunctionDef)}
        for place, node in self.nodes(ast.Name):
            self.assertTrue(node.id in BUILTINS or not hasattr(builtins, node.id), f"{place}: {node.id}")
        for place, node in self.nodes(ast.Call):
            if isinstance(node.func, ast.Attribute):
                self.assertIn(node.func.attr, METHODS | methods, place)
        for place, node in self.nodes(ast.FunctionDef):
            self.assertTrue(not node.name.startswith("__") or node.name in DOUBLE, place)

    def test_stars_in_calls_stand_before_names(self):
        for place, node in self.nodes(ast.Call):
            for argument in node.args:
                if isinstance(argument, ast.Starred):
                    self.assertIsInstance(argument.value, (ast.Name, ast.Attribute), place)

    def test_own_errors_only_are_caught(self):
        own = {node.name for _, node in self.nodes(ast.ClassDef)}
        for place, node in self.nodes(ast.ExceptHandler):
            for caught in node.type.elts if isinstance(node.type, ast.Tuple) else [node.type]:
                self.assertIn(caught.id, own | {"KeyError", "ZeroDivisionError"}, place)

    def test_words_and_strings(self):
        for place, node in self.nodes(ast.Constant):
            self.assertNotIsInstance(node.value, (float, complex, bytes), place)
            if isinstance(node.value, str):
                self.assertNotIn("%", node.value, place)
                self.assertFalse(node.value.endswith(("._", ".__")), place)
        for name, text in self.texts.items():
            self.assertIsNone(UNUSED_WORDS.search(text), name)

    def test_powers_are_literal(self):
        for place, node in self.nodes(ast.BinOp):
            if isinstance(node.op, ast.Pow):
                self.assertTrue(isinstance(node.right, ast.Constant) and 0 <= node.right.value <= 64, place)


if __name__ == "__main__":
    unittest.main()
