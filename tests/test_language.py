"""The rules of ../shared/LANGUAGE.md that can be read off the files of the package.

Not all of the rules: those that a slip breaks most easily.
"""

import ast
import builtins
import pathlib
import re
import unittest
import warnings

PACKAGE = pathlib.Path(__file__).resolve().parent.parent / "pourback"

BUILTINS = set(
    "len range enumerate zip min max sum abs sorted reversed int str bool bytes list tuple dict set frozenset"
    " isinstance ord repr any all divmod iter next Exception ValueError TypeError KeyError IndexError LookupError"
    " ZeroDivisionError ArithmeticError OverflowError RuntimeError NotImplementedError AttributeError"
    " NotImplemented".split()
)
BARRED_WORDS = (
    "type typing typing_extensions enum Enum IntEnum StrEnum Flag IntFlag Generic Protocol ABC ABCMeta namedtuple"
    " NamedTuple TypedDict TYPE_CHECKING abstractmethod".split()
)
BARRED_NODES = (
    ast.Global,
    ast.AsyncFunctionDef,
    ast.AsyncFor,
    ast.AsyncWith,
    ast.Await,
    ast.Div,
    ast.MatMult,
    ast.Import,
)
DOUBLE_UNDERSCORES = ("__init__", "__eq__", "__len__")
MODULE_LEVEL = (ast.ImportFrom, ast.FunctionDef, ast.ClassDef, ast.Assign)


def is_docstring(node):
    return isinstance(node, ast.Expr) and isinstance(node.value, ast.Constant) and isinstance(node.value.value, str)


class Language(unittest.TestCase):
    def setUp(self):
        texts = [path.read_text(encoding="utf-8") for path in sorted(PACKAGE.rglob("*.py"))]
        with warnings.catch_warnings():
            warnings.simplefilter("error")
            self.files = [(text, ast.parse(text)) for text in texts]

    def nodes(self, kind):
        walked = [node for text, tree in self.files for node in ast.walk(tree)]
        return [node for node in walked if isinstance(node, kind)]

    def test_the_folder_holds_plain_files_alone(self):
        names = [path.name for path in PACKAGE.iterdir() if path.name != "__pycache__"]
        self.assertIn("__init__.py", names)
        for name in names:
            self.assertRegex(name, r"\A(__init__|__main__|[a-z][a-z0-9_]*)\.py\Z")

    def test_sizes_and_characters(self):
        for text, tree in self.files:
            lines = text.split("\n")
            self.assertLess(len(lines), 400)
            self.assertLessEqual(max(len(line) for line in lines), 120)
            self.assertEqual(re.findall(r"[^ -~\n]", text), [])
        for node in self.nodes(ast.FunctionDef):
            self.assertLessEqual(node.end_lineno - node.lineno + 1, 40)

    def test_barred_words(self):
        for text, tree in self.files:
            self.assertEqual(re.findall(r"\b(?:" + "|".join(BARRED_WORDS) + r")\b", text), [])
            self.assertEqual(re.findall("dataclass|overload|contextmanager", text), [])

    def test_imports_of_the_package_alone(self):
        for node in self.nodes(ast.ImportFrom):
            self.assertEqual(node.level, 0)
            self.assertRegex(node.module, r"\Apourback\.")
            self.assertNotIn("*", [name.name for name in node.names])

    def test_module_level(self):
        for text, tree in self.files:
            for node in tree.body:
                self.assertTrue(isinstance(node, MODULE_LEVEL) or is_docstring(node))

    def test_barred_nodes(self):
        self.assertEqual(self.nodes(BARRED_NODES), [])

    def test_constants(self):
        for node in self.nodes(ast.Constant):
            self.assertNotIsInstance(node.value, (float, complex))
            if isinstance(node.value, str):
                self.assertNotIn("%", node.value)

    def test_names(self):
        for node in self.nodes((ast.Name, ast.arg, ast.FunctionDef, ast.ClassDef)):
            name = node.id if isinstance(node, ast.Name) else node.arg if isinstance(node, ast.arg) else node.name
            if isinstance(node, ast.FunctionDef) and name in DOUBLE_UNDERSCORES:
                continue
            self.assertRegex(name, r"\A[A-Za-z]")
            if hasattr(builtins, name):
                self.assertIsInstance(node, ast.Name)
                self.assertIsInstance(node.ctx, ast.Load)
                self.assertIn(name, BUILTINS)

    def test_is_beside_none_true_and_false_alone(self):
        for node in self.nodes(ast.Compare):
            for sign, right in zip(node.ops, node.comparators):
                if isinstance(sign, (ast.Is, ast.IsNot)):
                    self.assertIsInstance(right, ast.Constant)
                    self.assertIn(right.value, (None, True, False))

    def test_imports_name_the_file_that_defines_the_name(self):
        for node in self.nodes(ast.ImportFrom):
            file = PACKAGE / (node.module.removeprefix("pourback.") + ".py")
            body = ast.parse(file.read_text(encoding="utf-8")).body
            defined = [one.name for one in body if isinstance(one, (ast.FunctionDef, ast.ClassDef))]
            defined += [one.targets[0].id for one in body if isinstance(one, ast.Assign)]
            for name in node.names:
                self.assertIn(name.name, defined)
                self.assertIsNone(name.asname)

    def test_no_local_name_is_that_of_an_import_or_a_class(self):
        for text, tree in self.files:
            taken = [node.name for node in ast.walk(tree) if isinstance(node, (ast.alias, ast.ClassDef))]
            for node in ast.walk(tree):
                if isinstance(node, ast.arg):
                    self.assertNotIn(node.arg, taken)
                if isinstance(node, ast.Name) and isinstance(node.ctx, ast.Store):
                    self.assertNotIn(node.id, taken)

    def test_methods_and_attributes_have_unlike_names(self):
        inside = [node for kind in self.nodes(ast.ClassDef) for node in kind.body]
        methods = [node.name for node in inside if isinstance(node, ast.FunctionDef)]
        for node in self.nodes(ast.Attribute):
            if isinstance(node.ctx, ast.Store):
                self.assertNotIn(node.attr, methods)

    def test_no_generator_expressions_beside_a_class_that_compares(self):
        self.assertEqual(self.nodes(ast.GeneratorExp), [])


if __name__ == "__main__":
    unittest.main()
