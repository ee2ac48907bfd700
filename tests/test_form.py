"""The rules of the language subset that can be seen in the files, and the places of the interface."""

import ast
import builtins
import pathlib
import re
import unittest

FOLDER = pathlib.Path(__file__).resolve().parent.parent / "countcycles"

BUILTINS = set("""
    len range enumerate zip min max sum abs sorted reversed int str bool bytes list tuple dict set isinstance ord repr
    any all divmod iter next super property staticmethod classmethod Exception ValueError TypeError KeyError IndexError
    LookupError ZeroDivisionError ArithmeticError OverflowError RuntimeError NotImplementedError AttributeError
    StopIteration NotImplemented
""".split())

BARRED_WORDS = set("""
    type typing typing_extensions enum Enum IntEnum StrEnum Flag IntFlag Generic Protocol ABC ABCMeta namedtuple
    NamedTuple TypedDict TYPE_CHECKING abstractmethod
""".split())

BARRED_NODES = (ast.Global, ast.AsyncFunctionDef, ast.AsyncFor, ast.AsyncWith, ast.Await, ast.Div, ast.MatMult,
                ast.Import)

DOUBLE_UNDERSCORE = set("""
    __init__ __eq__ __repr__ __str__ __len__ __enter__ __exit__ __call__ __iter__ __contains__ __add__ __mul__
""".split())

INTERFACE = {
    "errors": ("ColumnError", "NoWidth", "NoRows", "NoRow", "NoRules", "NoRule", "NoColumn", "NoNumber", "NoText",
               "NotTable", "NotRules", "UnlikeWidths", "TooMuch", "NotThere", "Broken", "NothingDone"),
    "rules": ("Rules",),
}

METHODS = {
    ("rules", "Rules"): ("__init__", "width", "rules", "__len__", "__contains__", "__call__", "__add__", "text",
                         "read", "__eq__", "__repr__"),
}


def sources():
    return {path.stem: path.read_text(encoding="ascii") for path in sorted(FOLDER.glob("*.py"))}


def definitions(tree):
    return {node.name: node for node in tree.body if isinstance(node, (ast.FunctionDef, ast.ClassDef))}


def own_names(tree):
    """The names that a file binds or gives to its attributes and methods."""
    names = [node.name for node in ast.walk(tree) if isinstance(node, (ast.FunctionDef, ast.ClassDef))]
    names += [node.arg for node in ast.walk(tree) if isinstance(node, ast.arg)]
    names += [node.id for node in ast.walk(tree) if isinstance(node, ast.Name) and isinstance(node.ctx, ast.Store)]
    names += [node.attr for node in ast.walk(tree) if isinstance(node, ast.Attribute)]
    return names


class FilesTest(unittest.TestCase):

    def test_only_plain_files(self):
        names = [path.name for path in FOLDER.iterdir() if path.name != "__pycache__"]
        self.assertIn("__init__.py", names)
        for name in names:
            self.assertRegex(name, r"^[a-z0-9_]+\.py$")

    def test_characters_and_sizes(self):
        for name, text in sources().items():
            self.assertRegex(text, r"\A[\n -~]*\Z", name)
            lines = text.split("\n")
            self.assertLessEqual(len(lines), 399, name)
            self.assertLessEqual(max(map(len, lines)), 120, name)
            for node in ast.walk(ast.parse(text)):
                if isinstance(node, ast.FunctionDef):
                    self.assertLessEqual(node.end_lineno - node.lineno + 1, 40, f"{name}: {node.name}")

    def test_barred_words(self):
        for name, text in sources().items():
            self.assertEqual(set(re.findall(r"[A-Za-z0-9_]+", text)) & BARRED_WORDS, set(), name)
            self.assertNotRegex(text, "dataclass|overload|contextmanager", name)


class CodeTest(unittest.TestCase):

    def setUp(self):
        self.trees = {name: ast.parse(text) for name, text in sources().items()}

    def test_statements_and_values(self):
        for name, tree in self.trees.items():
            for node in ast.walk(tree):
                self.assertNotIsInstance(node, BARRED_NODES, name)
                if isinstance(node, ast.Constant):
                    self.assertNotIsInstance(node.value, (float, complex), name)
                    if isinstance(node.value, str):
                        self.assertNotIn("%", node.value, name)

    def test_builtins(self):
        known = set(dir(builtins))
        for name, tree in self.trees.items():
            used = {node.id for node in ast.walk(tree) if isinstance(node, ast.Name)}
            self.assertEqual((used & known) - BUILTINS, set(), name)

    def test_names(self):
        for name, tree in self.trees.items():
            for own in own_names(tree):
                self.assertTrue(own in DOUBLE_UNDERSCORE or not own.startswith("_"), f"{name}: {own}")
            bound = list(definitions(tree))
            self.assertEqual(set(bound) & set(dir(builtins)), set(), name)
            self.assertEqual(len(bound), len(set(bound)), name)

    def test_any_and_the_like_take_no_generator(self):
        for name, tree in self.trees.items():
            for node in ast.walk(tree):
                if isinstance(node, ast.Call) and isinstance(node.func, ast.Name):
                    if node.func.id in ("sum", "min", "max", "sorted", "any", "all"):
                        self.assertFalse([x for x in node.args if isinstance(x, ast.GeneratorExp)], name)

    def test_no_name_is_a_method_and_an_attribute(self):
        methods = set()
        stored = set()
        for tree in self.trees.values():
            for node in ast.walk(tree):
                if isinstance(node, ast.ClassDef):
                    methods |= {part.name for part in node.body
                                if isinstance(part, ast.FunctionDef) and not part.decorator_list}
                if isinstance(node, ast.Attribute) and isinstance(node.ctx, ast.Store):
                    stored.add(node.attr)
        self.assertEqual(methods & stored, set())


class ImportsTest(unittest.TestCase):

    def setUp(self):
        self.trees = {name: ast.parse(text) for name, text in sources().items()}
        self.imported = {
            name: [node for node in ast.walk(tree) if isinstance(node, ast.ImportFrom)]
            for name, tree in self.trees.items()
        }

    def test_from_the_file_that_defines_the_name(self):
        for name, nodes in self.imported.items():
            for node in nodes:
                self.assertEqual(node.level, 0)
                self.assertRegex(node.module, r"^countcycles\.[a-z]+$", name)
                defined = definitions(self.trees[node.module.split(".")[1]])
                for alias in node.names:
                    self.assertIn(alias.name, defined, name)

    def test_imports_stand_at_the_top(self):
        for name, tree in self.trees.items():
            kinds = [isinstance(node, ast.ImportFrom) for node in tree.body[1:]]
            self.assertEqual(kinds, sorted(kinds, reverse=True), name)
            self.assertEqual(sum(kinds), len(self.imported[name]), name)

    def test_no_rings(self):
        left = {name: {node.module.split(".")[1] for node in nodes} for name, nodes in self.imported.items()}
        while left:
            free = [name for name in left if not left[name] & set(left)]
            self.assertTrue(free, f"files import from each other: {sorted(left)}")
            left = {name: needs for name, needs in left.items() if name not in free}


class InterfaceTest(unittest.TestCase):

    def test_defined_in_its_file(self):
        texts = sources()
        for name, wanted in INTERFACE.items():
            self.assertEqual(set(wanted) - set(definitions(ast.parse(texts[name]))), set(), name)

    def test_methods_in_the_class_itself(self):
        texts = sources()
        for (name, owner), wanted in METHODS.items():
            body = definitions(ast.parse(texts[name]))[owner].body
            found = {part.name for part in body if isinstance(part, ast.FunctionDef)}
            self.assertEqual(set(wanted) - found, set(), owner)


if __name__ == "__main__":
    unittest.main()
