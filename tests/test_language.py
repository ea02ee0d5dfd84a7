"""The package keeps to LANGUAGE.md: those of its rules L1 to L28 that a short look at the code can tell."""

import ast
import builtins
import io
import pathlib
import re
import tokenize
import unittest

PACKAGE = pathlib.Path(__file__).resolve().parent.parent / "wantway"
BUILTINS = set(
    "len range enumerate zip min max sum abs sorted reversed int str bool bytes list tuple dict set frozenset "
    "isinstance ord repr any all divmod Exception ValueError TypeError KeyError IndexError LookupError "
    "ZeroDivisionError ArithmeticError OverflowError RuntimeError NotImplementedError AttributeError "
    "StopIteration".split()
)
METHODS = set(
    "append clear copy count endswith extend find get index insert isalnum isalpha isdigit islower isspace isupper "
    "items join keys ljust lower lstrip partition pop remove replace reverse rfind rjust rpartition rsplit rstrip "
    "setdefault split splitlines startswith strip update upper values zfill bit_length add discard sort "
    "title capitalize swapcase casefold center expandtabs removeprefix removesuffix rindex isascii isdecimal "
    "isnumeric istitle isidentifier isprintable".split()
)
DUNDERS = {"__init__", "__eq__", "__repr__", "__str__", "__len__"}
BARRED_WORDS = set(
    "type typing typing_extensions enum Enum IntEnum StrEnum Flag IntFlag Generic Protocol ABC ABCMeta namedtuple "
    "NamedTuple TypedDict TYPE_CHECKING abstractmethod".split()
)
BARRED_NAMES = set(
    "register mro elements open input version_info with_traceback add_note attrgetter breakpoint builtins compile "
    "copyright credits delattr dir eval exec exit gc getattr globals hasattr help id importlib license locals "
    "methodcaller os quit setattr super type vars sys format format_map".split()
)
STATEMENTS = (
    ast.Assign, ast.AugAssign, ast.AnnAssign, ast.If, ast.While, ast.For, ast.Return, ast.Break, ast.Continue,
    ast.Pass, ast.Raise, ast.Assert, ast.Delete, ast.Try, ast.Expr, ast.FunctionDef, ast.ClassDef, ast.ImportFrom,
)
BARRED_NODES = (
    ast.GeneratorExp, ast.NamedExpr, ast.Await, ast.Yield, ast.YieldFrom, ast.Div, ast.MatMult,
)
FILES = {path.stem: path for path in sorted(PACKAGE.glob("*.py"))}
TEXTS = {name: path.read_text(encoding="utf-8") for name, path in FILES.items()}
TREES = {name: ast.parse(text) for name, text in TEXTS.items()}
CLASSES = [node for tree in TREES.values() for node in ast.walk(tree) if isinstance(node, ast.ClassDef)]
OWN_METHODS = {node.name for one in CLASSES for node in one.body if isinstance(node, ast.FunctionDef)} - DUNDERS
OWN_ATTRIBUTES = {
    node.attr for tree in TREES.values() for node in ast.walk(tree)
    if isinstance(node, ast.Attribute) and isinstance(node.ctx, ast.Store)
}
OF_BUILTIN_VALUES = {
    name for kind in (str, int, list, dict, set, bytes, tuple) for name in dir(kind) if not name.startswith("__")
}


def functions(tree):
    return [node for node in ast.walk(tree) if isinstance(node, ast.FunctionDef)]


def bound_names(tree):
    """All names that a file binds anywhere, but for methods and attributes."""
    for node in ast.walk(tree):
        if isinstance(node, ast.Name) and isinstance(node.ctx, ast.Store):
            yield node.id
        elif isinstance(node, ast.arg):
            yield node.arg
        elif isinstance(node, ast.ExceptHandler) and node.name:
            yield node.name


def module_names(tree):
    """The names that a file binds at module level, in order."""
    for node in tree.body:
        if isinstance(node, (ast.FunctionDef, ast.ClassDef)):
            yield node.name
        elif isinstance(node, ast.ImportFrom):
            yield from [alias.asname or alias.name for alias in node.names]
        elif isinstance(node, ast.Assign):
            yield from [target.id for target in node.targets]


class LanguageTest(unittest.TestCase):
    def each_node(self):
        for name, tree in TREES.items():
            for node in ast.walk(tree):
                yield f"{name}.py:{getattr(node, 'lineno', 0)}", node

    def test_files(self):
        self.assertIn("__init__", FILES)
        self.assertLessEqual(len(FILES), 100)
        for path in PACKAGE.iterdir():
            self.assertTrue(path.name == "__pycache__" or path.suffix == ".py", f"L1 {path}")
            self.assertRegex(path.name, r"^[a-z0-9_]+(\.py)?$", "L14")
        for name in FILES:
            self.assertNotIn(name, dir(builtins), "L14")

    def test_sizes_and_signs(self):
        for name, text in TEXTS.items():
            lines = text.split("\n")
            self.assertLessEqual(len(lines), 400, f"L10 {name}")
            self.assertRegex(text, r"\A[ -~\n]*\Z", f"L14 {name}")
            for line in lines:
                self.assertLessEqual(len(line), 120, f"L10 {name}: {line}")
            for node in functions(TREES[name]):
                self.assertLessEqual(node.end_lineno - node.lineno + 1, 40, f"L10 {name}: {node.name}")

    def test_words(self):
        for name, text in TEXTS.items():
            self.assertFalse(set(re.findall(r"\w+", text)) & BARRED_WORDS, f"L17 {name}")
            self.assertNotRegex(text, "dataclass|overload|contextmanager", f"L17 {name}")

    def test_strings(self):
        for name, text in TEXTS.items():
            for token in tokenize.generate_tokens(io.StringIO(text).readline):
                if token.type == tokenize.STRING:
                    self.assertNotIn("%", token.string, f"L27 {name}:{token.start[0]}")
                    self.assertNotRegex(token.string, r"\\[^nt\\'\"]", f"L27 {name}:{token.start[0]}")

    def test_imports(self):
        reached = {}
        for name, tree in TREES.items():
            reached[name] = set()
            for node in tree.body:
                if isinstance(node, ast.ImportFrom):
                    self.assertEqual(node.level, 0, f"L2 {name}")
                    package, module = node.module.split(".")
                    self.assertEqual(package, "wantway", f"L2 {name}")
                    defined = [
                        thing for thing in TREES[module].body if not isinstance(thing, ast.ImportFrom)
                    ]
                    own = set(module_names(ast.Module(defined, [])))
                    self.assertFalse({alias.name for alias in node.names} - own, f"L16 {name}: {module}")
                    reached[name] |= {module, "__init__"}
        for again in FILES:
            for name in FILES:
                reached[name] |= set().union(*[reached[other] for other in reached[name]])
        for name in FILES:
            self.assertNotIn(name, reached[name], "L16")

    def test_module_level(self):
        for name, tree in TREES.items():
            for at, node in enumerate(tree.body):
                allowed = (ast.ImportFrom, ast.FunctionDef, ast.ClassDef, ast.Assign)
                self.assertTrue(isinstance(node, allowed) or at == 0 and isinstance(node, ast.Expr), f"L3 {name}")
                if isinstance(node, ast.Assign):
                    self.assertFalse([1 for part in ast.walk(node) if isinstance(part, ast.Call)], f"L3 {name}")
            names = list(module_names(tree))
            self.assertEqual(len(names), len(set(names)), f"L15 {name}")

    def test_statements_and_expressions(self):
        for where, node in self.each_node():
            if isinstance(node, ast.stmt):
                self.assertIsInstance(node, STATEMENTS, f"L6 {where}")
            self.assertNotIsInstance(node, BARRED_NODES, f"L7 {where}")
            if isinstance(node, (ast.For, ast.While)):
                self.assertFalse(node.orelse, f"L6 {where}")
            if isinstance(node, ast.Constant):
                self.assertNotIsInstance(node.value, (float, complex), f"L7 {where}")
            if isinstance(node, ast.FormattedValue):
                self.assertIsNone(node.format_spec, f"L7 {where}")
            if isinstance(node, ast.Call):
                self.assertFalse([1 for part in node.args if isinstance(part, ast.Starred)], f"L7 {where}")
                self.assertNotIn(None, [part.arg for part in node.keywords], f"L7 {where}")
            if isinstance(node, ast.Compare):
                for sign, right in zip(node.ops, node.comparators):
                    if isinstance(sign, (ast.Is, ast.IsNot)):
                        self.assertIsInstance(right, ast.Constant, f"L20 {where}")
                        self.assertIn(right.value, (None, True, False), f"L20 {where}")

    def test_functions_and_classes(self):
        for where, node in self.each_node():
            if isinstance(node, (ast.FunctionDef, ast.Lambda)):
                self.assertIsNone(node.args.vararg, f"L4 {where}")
                self.assertIsNone(node.args.kwarg, f"L4 {where}")
                self.assertFalse(node.args.posonlyargs, f"L4 {where}")
            if isinstance(node, (ast.FunctionDef, ast.ClassDef)):
                self.assertFalse(node.decorator_list, f"L4 {where}")
            if isinstance(node, ast.ClassDef):
                self.assertLessEqual(len(node.bases), 1, f"L5 {where}")
                self.assertFalse(node.keywords, f"L5 {where}")
                for at, part in enumerate(node.body):
                    docstring = at == 0 and isinstance(part, ast.Expr)
                    self.assertTrue(docstring or isinstance(part, ast.FunctionDef), f"L5 {where}")

    def test_names(self):
        for name, tree in TREES.items():
            heads = {node.name for node in ast.walk(tree) if isinstance(node, (ast.FunctionDef, ast.ClassDef))}
            bound = set(bound_names(tree))
            for one in (heads | bound) - DUNDERS:
                self.assertRegex(one, r"^[A-Za-z][A-Za-z0-9_]*$", f"L12 {name}")
                self.assertNotIn(one, BARRED_NAMES, f"L17 {name}")
            of_file = {alias.asname or alias.name for node in tree.body if isinstance(node, ast.ImportFrom)
                       for alias in node.names}
            of_file |= {node.name for node in tree.body if isinstance(node, ast.ClassDef)}
            self.assertFalse(bound & (of_file | set(dir(builtins))), f"L15 {name}")

    def test_builtins(self):
        for name, tree in TREES.items():
            known = set(bound_names(tree)) | set(module_names(tree))
            known |= {node.name for node in functions(tree)}
            used = {node.id for node in ast.walk(tree) if isinstance(node, ast.Name)}
            self.assertFalse(used - known - BUILTINS, f"L8 {name}")

    def test_methods_and_attributes(self):
        self.assertFalse(OWN_METHODS & OWN_ATTRIBUTES, "L18")
        self.assertFalse((OWN_METHODS | OWN_ATTRIBUTES) & OF_BUILTIN_VALUES, "L26")
        for where, node in self.each_node():
            if isinstance(node, ast.ClassDef):
                methods = [part.name for part in node.body if isinstance(part, ast.FunctionDef)]
                self.assertEqual(len(methods), len(set(methods)), f"L18 {where}")
                own = {name for name in methods if name.startswith("__")}
                self.assertFalse(own - DUNDERS, f"L5 {where}")
            if isinstance(node, ast.Attribute):
                self.assertIn(node.attr, METHODS | OWN_METHODS | OWN_ATTRIBUTES | {"__init__"}, f"L25 {where}")

    def test_errors(self):
        for where, node in self.each_node():
            if isinstance(node, ast.ExceptHandler):
                self.assertIsNotNone(node.type, f"L19 {where}")
            if isinstance(node, ast.Raise) and node.exc is not None:
                self.assertIsInstance(node.exc, ast.Call, f"L19 {where}")
                self.assertIsInstance(node.exc.func, ast.Name, f"L19 {where}")


if __name__ == "__main__":
    unittest.main()
