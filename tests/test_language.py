"""Rules of ../shared/LANGUAGE.md that can be seen in the files themselves."""

import ast
import builtins
import pathlib
import re
import unittest

PACKAGE = pathlib.Path(__file__).resolve().parent.parent / "blotsum"
BUILTINS = set("""len range enumerate zip min max sum abs sorted reversed int str bool bytes list tuple dict set
    frozenset isinstance ord repr any all divmod Exception ValueError TypeError KeyError IndexError LookupError
    ZeroDivisionError ArithmeticError OverflowError RuntimeError NotImplementedError AttributeError StopIteration
    NotImplemented super""".split())
METHODS = set("""append clear copy count endswith extend find get index insert isalnum isalpha isdigit islower isspace
    isupper items join keys ljust lower lstrip partition pop remove replace reverse rfind rjust rpartition rsplit
    rstrip setdefault split splitlines startswith strip update upper values zfill bit_length
    __init__""".split())
WORDS = set("""type typing typing_extensions enum Enum IntEnum StrEnum Flag IntFlag Generic Protocol ABC ABCMeta
    namedtuple NamedTuple TypedDict TYPE_CHECKING abstractmethod""".split())
BARRED = (ast.Global, ast.AsyncFunctionDef, ast.Await, ast.Import, ast.Div, ast.MatMult, ast.GeneratorExp)


class Language(unittest.TestCase):
    def setUp(self):
        self.files = sorted(path for path in PACKAGE.iterdir() if path.name != "__pycache__")
        self.texts = {path.stem: path.read_text(encoding="ascii") for path in self.files}
        self.trees = {name: ast.parse(text) for name, text in self.texts.items()}

    def nodes(self, *kinds):
        return [(name, node) for name, tree in self.trees.items() for node in ast.walk(tree) if isinstance(node, kinds)]

    def test_files(self):
        self.assertIn("__init__", self.texts)
        for path in self.files:
            self.assertRegex(path.name, r"^[a-z0-9_]+\.py$")

    def test_characters_and_sizes(self):
        for name, text in self.texts.items():
            self.assertRegex(text, r"\A[ -~\n]*\Z", name)
            lines = text.split("\n")
            self.assertLessEqual(len(lines), 400, name)
            self.assertLessEqual(max(map(len, lines)), 120, name)
        for name, node in self.nodes(ast.FunctionDef):
            self.assertLessEqual(node.end_lineno - node.lineno + 1, 40, node.name)

    def test_words(self):
        for name, text in self.texts.items():
            self.assertEqual(set(re.findall(r"\w+", text)) & WORDS, set(), name)
            self.assertNotRegex(text, "dataclass|overload|contextmanager")

    def test_imports_stand_at_the_top_and_make_no_ring(self):
        heads = {name: set() for name in self.trees}
        for name, node in self.nodes(ast.ImportFrom):
            self.assertIn(node, self.trees[name].body)
            self.assertEqual((node.level, node.module.split(".")[0]), (0, "blotsum"))
            self.assertNotIn("*", [one.name for one in node.names])
            heads[name].add(node.module.split(".")[1])
        while heads:
            free = [name for name in heads if not heads[name] & set(heads)]
            self.assertNotEqual(free, [], heads)
            heads = {name: heads[name] for name in heads if name not in free}

    def test_barred_statements(self):
        self.assertEqual([(name, node.lineno) for name, node in self.nodes(*BARRED)], [])

    def test_literals(self):
        for name, node in self.nodes(ast.Constant):
            self.assertNotIsInstance(node.value, (float, complex))
            if isinstance(node.value, str):
                self.assertNotIn(chr(37), node.value)

    def test_exponents_are_literal(self):
        for name, node in self.nodes(ast.BinOp, ast.AugAssign):
            if isinstance(node.op, ast.Pow):
                self.assertIsInstance(getattr(node, "right", None), ast.Constant, (name, node.lineno))

    def test_builtins(self):
        for name, node in self.nodes(ast.Name):
            if hasattr(builtins, node.id):
                self.assertIn(node.id, BUILTINS, (name, node.lineno))
                self.assertIsInstance(node.ctx, ast.Load, (name, node.lineno))
        for name, node in self.nodes(ast.arg):
            self.assertFalse(hasattr(builtins, node.arg), (name, node.lineno))

    def test_names_begin_with_letters(self):
        names = [(node.lineno, node.id) for name, node in self.nodes(ast.Name)]
        names += [(node.lineno, node.arg) for name, node in self.nodes(ast.arg)]
        for line, name in names:
            self.assertFalse(name.startswith("_"), (line, name))

    def test_methods(self):
        own = {item.name for name, node in self.nodes(ast.ClassDef) for item in node.body
               if isinstance(item, ast.FunctionDef)}
        for name, node in self.nodes(ast.Call):
            if isinstance(node.func, ast.Attribute):
                self.assertIn(node.func.attr, METHODS | own, (name, node.lineno))

    def test_no_name_is_a_method_and_an_attribute(self):
        own = {item.name for name, node in self.nodes(ast.ClassDef) for item in node.body
               if isinstance(item, ast.FunctionDef)}
        stored = {node.attr for name, node in self.nodes(ast.Attribute) if isinstance(node.ctx, ast.Store)}
        self.assertEqual(own & stored, set())

    def test_no_local_name_is_an_import_or_a_class(self):
        for name, tree in self.trees.items():
            taken = {one.name for node in tree.body if isinstance(node, ast.ImportFrom) for one in node.names}
            taken |= {node.name for node in tree.body if isinstance(node, ast.ClassDef)}
            local = {node.id for node in ast.walk(tree) if isinstance(node, ast.Name) and isinstance(node.ctx, ast.Store)}
            local |= {node.arg for node in ast.walk(tree) if isinstance(node, ast.arg)}
            self.assertEqual(taken & local, set(), name)

    def test_only_own_errors_are_caught_and_raised(self):
        own = {node.name for name, node in self.nodes(ast.ClassDef) if name == "errors"}
        for name, node in self.nodes(ast.ExceptHandler):
            self.assertIn(node.type.id, own, (name, node.lineno))
        for name, node in self.nodes(ast.Raise):
            self.assertIsInstance(node.exc, ast.Call, (name, node.lineno))
            self.assertIn(node.exc.func.id, own | {"NotImplementedError"}, (name, node.lineno))

    def test_double_underscore_methods(self):
        told = {"__init__", "__len__", "__str__", "__eq__"}
        for name, node in self.nodes(ast.FunctionDef):
            if node.name.startswith("_"):
                self.assertIn(node.name, told, (name, node.lineno))
        for name, node in self.nodes(ast.FunctionDef):
            if node.name in ("__len__", "__str__"):
                self.assertEqual(node.body[-1].value.func.id, {"__len__": "len", "__str__": "str"}[node.name])


if __name__ == "__main__":
    unittest.main()
