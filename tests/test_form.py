"""The rules of the language subset that can be seen in the files, and the places of the interface."""

import ast
import builtins
import importlib
import inspect
import pathlib
import re
import unittest

FOLDER = pathlib.Path(__file__).resolve().parent.parent / "countcycles"

BUILTINS = set("""
    len range enumerate zip min max sum abs sorted reversed int str bool bytes list tuple dict set isinstance ord repr
    any all divmod iter next super property staticmethod classmethod Exception ValueError TypeError KeyError IndexError
    LookupError ZeroDivisionError ArithmeticError OverflowError RuntimeError NotImplementedError AttributeError
    StopIteration NotImplemented
""".split())

BARRED_WORDS = set("""
    type typing typing_extensions enum Enum IntEnum StrEnum Flag IntFlag Generic Protocol ABC ABCMeta namedtuple
    NamedTuple TypedDict TYPE_CHECKING abstractmethod
""".split())

BARRED_NODES = (ast.Global, ast.AsyncFunctionDef, ast.AsyncFor, ast.AsyncWith, ast.Await, ast.Div, ast.MatMult,
                ast.Import)

DOUBLE_UNDERSCORE = set("""
    __init__ __eq__ __repr__ __str__ __len__ __enter__ __exit__ __call__ __iter__ __contains__ __add__ __mul__
""".split())

INTERFACE = {
    "errors": ("ColumnError", "NoWidth", "NoRows", "NoRow", "NoRules", "NoRule", "NoColumn", "NoNumber", "NoText",
               "NotTable", "NotRules", "UnlikeWidths", "TooMuch", "NotThere", "Broken", "NothingDone"),
    "tables": ("Table",),
    "rules": ("Rules",),
    "follow": ("walk", "groups", "following", "verdict", "shows_verdict", "model", "least"),
    "logs": ("Log", "Strict", "Short", "StrictShort"),
}

OF_A_LOG = ("__init__", "rules", "table", "broken", "changes", "assign_table", "add", "__call__", "drop", "undo",
            "trying", "__len__", "__repr__")

METHODS = {
    ("tables", "Table"): ("__init__", "width", "rows", "counts", "__len__", "__call__", "obeyed", "__add__", "__mul__",
                          "text", "read", "__eq__", "__repr__"),
    ("rules", "Rules"): ("__init__", "width", "rules", "__len__", "__contains__", "__call__", "__add__", "text",
                         "read", "__eq__", "__repr__"),
    ("logs", "Log"): OF_A_LOG,
    ("logs", "Strict"): OF_A_LOG,
    ("logs", "Short"): OF_A_LOG + ("most",),
    ("logs", "StrictShort"): OF_A_LOG + ("most",),
}

SIGNATURES = {
    "tables.Table": "(width, *rows)",
    "tables.Table.__call__": "(self, rule)",
    "tables.Table.obeyed": "(self)",
    "tables.Table.text": "(self)",
    "tables.Table.read": "(width, text)",
    "rules.Rules": "(width, *rules)",
    "rules.Rules.__call__": "(self, rule)",
    "rules.Rules.text": "(self)",
    "rules.Rules.read": "(width, text)",
    "follow.walk": "(rules, a, b)",
    "follow.groups": "(rules)",
    "follow.following": "(rules)",
    "follow.verdict": "(rules, rule)",
    "follow.shows_verdict": "(rules, rule, thing)",
    "follow.model": "(rules)",
    "follow.least": "(rules)",
    "logs.Log": "(rules)",
    "logs.Strict": "(rules)",
    "logs.Short": "(rules, most=10)",
    "logs.StrictShort": "(rules, most=10)",
}

OF_EACH_LOG = {
    "__call__": "(self, row)", "add": "(self, row)", "drop": "(self, row)", "assign_table": "(self, table)",
    "undo": "(self)", "trying": "(self)",
}

# What a block of the method __exit__ may consist of.
EXIT_NODES = (ast.FunctionDef, ast.arguments, ast.arg, ast.If, ast.Compare, ast.Is, ast.IsNot, ast.Constant, ast.Assign,
              ast.Attribute, ast.Name, ast.Load, ast.Store, ast.Return, ast.Pass)


def sources():
    return {path.stem: path.read_text(encoding="ascii") for path in sorted(FOLDER.glob("*.py"))}


def definitions(tree):
    return {node.name: node for node in tree.body if isinstance(node, (ast.FunctionDef, ast.ClassDef))}


def bound_names(tree):
    """The names that a file binds by a definition or an assignment at module level."""
    assigned = [node.targets[0].id for node in tree.body if isinstance(node, ast.Assign)]
    return set(definitions(tree)) | set(assigned)


def classes(tree):
    return [node for node in tree.body if isinstance(node, ast.ClassDef)]


def decorated(owner, word):
    """The names of the methods of a class that have this decorator."""
    return {part.name for part in owner.body if isinstance(part, ast.FunctionDef)
            and [mark for mark in part.decorator_list if isinstance(mark, ast.Name) and mark.id == word]}


def own_names(tree):
    """The names that a file binds or gives to its attributes and methods."""
    names = [node.name for node in ast.walk(tree) if isinstance(node, (ast.FunctionDef, ast.ClassDef))]
    names += [node.arg for node in ast.walk(tree) if isinstance(node, ast.arg)]
    names += [node.id for node in ast.walk(tree) if isinstance(node, ast.Name) and isinstance(node.ctx, ast.Store)]
    names += [node.attr for node in ast.walk(tree) if isinstance(node, ast.Attribute)]
    return names


class FilesTest(unittest.TestCase):

    def test_only_plain_files(self):
        names = [path.name for path in FOLDER.iterdir() if path.name != "__pycache__"]
        self.assertIn("__init__.py", names)
        for name in names:
            self.assertRegex(name, r"^[a-z0-9_]+\.py$")

    def test_characters_and_sizes(self):
        for name, text in sources().items():
            self.assertRegex(text, r"\A[\n -~]*\Z", name)
            lines = text.split("\n")
            self.assertLessEqual(len(lines), 399, name)
            self.assertLessEqual(max(map(len, lines)), 120, name)
            for node in ast.walk(ast.parse(text)):
                if isinstance(node, ast.FunctionDef):
                    self.assertLessEqual(node.end_lineno - node.lineno + 1, 40, f"{name}: {node.name}")

    def test_barred_words(self):
        for name, text in sources().items():
            self.assertEqual(set(re.findall(r"[A-Za-z0-9_]+", text)) & BARRED_WORDS, set(), name)
            self.assertNotRegex(text, "dataclass|overload|contextmanager", name)


class CodeTest(unittest.TestCase):

    def setUp(self):
        self.trees = {name: ast.parse(text) for name, text in sources().items()}

    def test_statements_and_values(self):
        for name, tree in self.trees.items():
            for node in ast.walk(tree):
                self.assertNotIsInstance(node, BARRED_NODES, name)
                if isinstance(node, ast.Constant):
                    self.assertNotIsInstance(node.value, (float, complex), name)
                    if isinstance(node.value, str):
                        self.assertNotIn("%", node.value, name)

    def test_builtins(self):
        known = set(dir(builtins))
        for name, tree in self.trees.items():
            used = {node.id for node in ast.walk(tree) if isinstance(node, ast.Name)}
            self.assertEqual((used & known) - BUILTINS, set(), name)

    def test_names(self):
        for name, tree in self.trees.items():
            for own in own_names(tree):
                self.assertTrue(own in DOUBLE_UNDERSCORE or not own.startswith("_"), f"{name}: {own}")
            bound = list(definitions(tree))
            self.assertEqual(set(bound) & set(dir(builtins)), set(), name)
            self.assertEqual(len(bound), len(set(bound)), name)

    def test_any_and_the_like_take_no_generator(self):
        for name, tree in self.trees.items():
            for node in ast.walk(tree):
                if isinstance(node, ast.Call) and isinstance(node.func, ast.Name):
                    if node.func.id in ("sum", "min", "max", "sorted", "any", "all"):
                        self.assertFalse([x for x in node.args if isinstance(x, ast.GeneratorExp)], name)

    def test_no_name_is_a_method_and_an_attribute(self):
        methods = set()
        stored = set()
        for tree in self.trees.values():
            for node in ast.walk(tree):
                if isinstance(node, ast.ClassDef):
                    methods |= {part.name for part in node.body
                                if isinstance(part, ast.FunctionDef) and not part.decorator_list}
                if isinstance(node, ast.Attribute) and isinstance(node.ctx, ast.Store):
                    stored.add(node.attr)
        self.assertEqual(methods & stored, set())

    def test_no_property_is_stored(self):
        names = set()
        stored = set()
        for tree in self.trees.values():
            for owner in classes(tree):
                names |= decorated(owner, "property")
            stored |= {node.attr for node in ast.walk(tree)
                       if isinstance(node, ast.Attribute) and isinstance(node.ctx, ast.Store)}
        self.assertEqual(names & stored, set())

    def test_each_property_of_a_name_with_a_setter_has_one(self):
        owners = [owner for tree in self.trees.values() for owner in classes(tree)]
        having = [owner.name for owner in owners if "table" in decorated(owner, "property")]
        setting = [owner.name for owner in owners for part in owner.body if isinstance(part, ast.FunctionDef)
                   and [ast.unparse(mark) for mark in part.decorator_list] == ["table.setter"]]
        self.assertEqual(having, setting)
        self.assertEqual(having, ["Log", "Strict", "Short", "StrictShort"])

    def test_super_only_calls_plain_methods(self):
        for name, tree in self.trees.items():
            calls = [node for node in ast.walk(tree) if isinstance(node, ast.Name) and node.id == "super"]
            plain = [node for node in ast.walk(tree) if isinstance(node, ast.Call)
                     and re.fullmatch(r"super\(\)\.[a-z_]+", ast.unparse(node.func))]
            self.assertEqual(len(calls), len(plain), name)

    def test_exit_only_assigns(self):
        found = [part for tree in self.trees.values() for owner in classes(tree) for part in owner.body
                 if isinstance(part, ast.FunctionDef) and part.name == "__exit__"]
        self.assertTrue(found)
        for part in found:
            for node in ast.walk(part):
                self.assertIsInstance(node, EXIT_NODES)

    def test_no_local_name_of_a_class_or_an_import(self):
        for name, tree in self.trees.items():
            taken = {alias.name for node in tree.body if isinstance(node, ast.ImportFrom) for alias in node.names}
            taken |= {owner.name for owner in classes(tree)}
            nodes = list(ast.walk(tree))
            local = {node.arg for node in nodes if isinstance(node, ast.arg)}
            local |= {node.id for node in nodes if isinstance(node, ast.Name) and isinstance(node.ctx, ast.Store)}
            self.assertEqual(taken & local, set(), name)

    def test_is_only_beside_none(self):
        for name, tree in self.trees.items():
            for node in ast.walk(tree):
                if isinstance(node, ast.Compare) and isinstance(node.ops[0], (ast.Is, ast.IsNot)):
                    self.assertIsInstance(node.comparators[0], ast.Constant, name)


class ImportsTest(unittest.TestCase):

    def setUp(self):
        self.trees = {name: ast.parse(text) for name, text in sources().items()}
        self.imported = {
            name: [node for node in ast.walk(tree) if isinstance(node, ast.ImportFrom)]
            for name, tree in self.trees.items()
        }

    def test_from_the_file_that_defines_the_name(self):
        for name, nodes in self.imported.items():
            for node in nodes:
                self.assertEqual(node.level, 0)
                self.assertRegex(node.module, r"^countcycles\.[a-z]+$", name)
                defined = bound_names(self.trees[node.module.split(".")[1]])
                for alias in node.names:
                    self.assertIn(alias.name, defined, name)

    def test_imports_stand_at_the_top(self):
        for name, tree in self.trees.items():
            kinds = [isinstance(node, ast.ImportFrom) for node in tree.body[1:]]
            self.assertEqual(kinds, sorted(kinds, reverse=True), name)
            self.assertEqual(sum(kinds), len(self.imported[name]), name)

    def test_no_rings(self):
        left = {name: {node.module.split(".")[1] for node in nodes} for name, nodes in self.imported.items()}
        while left:
            free = [name for name in left if not left[name] & set(left)]
            self.assertTrue(free, f"files import from each other: {sorted(left)}")
            left = {name: needs for name, needs in left.items() if name not in free}


class InterfaceTest(unittest.TestCase):

    def test_defined_in_its_file(self):
        texts = sources()
        for name, wanted in INTERFACE.items():
            self.assertEqual(set(wanted) - set(definitions(ast.parse(texts[name]))), set(), name)

    def test_methods_in_the_class_itself(self):
        texts = sources()
        for (name, owner), wanted in METHODS.items():
            body = definitions(ast.parse(texts[name]))[owner].body
            found = {part.name for part in body if isinstance(part, ast.FunctionDef)}
            self.assertEqual(set(wanted) - found, set(), owner)

    def check_signature(self, path, expected):
        value = importlib.import_module("countcycles." + path.split(".")[0])
        for part in path.split(".")[1:]:
            value = getattr(value, part)
        self.assertEqual(str(inspect.signature(value)), expected, path)

    def test_signatures(self):
        for path, expected in SIGNATURES.items():
            self.check_signature(path, expected)
        for owner in INTERFACE["logs"]:
            for name, expected in OF_EACH_LOG.items():
                self.check_signature(f"logs.{owner}.{name}", expected)

    def test_properties(self):
        texts = sources()
        for (name, owner), wanted in METHODS.items():
            node = definitions(ast.parse(texts[name]))[owner]
            expected = {"width", "rows", "counts", "rules", "table", "broken", "changes", "most"} & set(wanted)
            self.assertEqual(decorated(node, "property"), expected, owner)

    def test_following_is_a_generator(self):
        self.assertTrue(inspect.isgeneratorfunction(importlib.import_module("countcycles.follow").following))


if __name__ == "__main__":
    unittest.main()
