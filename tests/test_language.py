"""The package keeps to the part of Python it is written in, as far as a test can see it."""

import ast
import builtins
import pathlib
import re
import unittest

PACKAGE = pathlib.Path(__file__).resolve().parent.parent / "foldedwindows"

OWN_NAMES = """len range enumerate zip min max sum abs sorted reversed int str bool list tuple dict set frozenset isinstance
ord repr any all divmod Exception ValueError TypeError KeyError IndexError LookupError ZeroDivisionError ArithmeticError
OverflowError RuntimeError NotImplementedError AttributeError StopIteration""".split()

METHODS = """append clear copy count endswith extend find get index insert isalnum isalpha isdigit islower isspace isupper
items join keys ljust lower lstrip partition pop remove replace reverse rfind rjust rpartition rsplit rstrip setdefault
split splitlines startswith strip update upper values zfill bit_length""".split()

WORDS = """type typing typing_extensions enum Enum IntEnum StrEnum Flag IntFlag Generic Protocol ABC ABCMeta namedtuple
NamedTuple TypedDict TYPE_CHECKING abstractmethod""".split()

NODES = (ast.Module, ast.FunctionDef, ast.ClassDef, ast.ImportFrom, ast.alias, ast.Assign, ast.AugAssign, ast.If, ast.While,
         ast.For, ast.Return, ast.Break, ast.Continue, ast.Pass, ast.Raise, ast.Try, ast.ExceptHandler, ast.Expr,
         ast.Constant, ast.Name, ast.Attribute, ast.Subscript, ast.Slice, ast.List, ast.Tuple, ast.Dict, ast.Call,
         ast.Compare, ast.BoolOp, ast.BinOp, ast.UnaryOp, ast.IfExp, ast.ListComp, ast.comprehension, ast.Lambda,
         ast.keyword, ast.arguments, ast.arg, ast.expr_context, ast.operator, ast.unaryop, ast.boolop, ast.cmpop)

PYTHONS_VALUES = ("", 0, [], {}, (), set(), b"")


def sources():
    return {path.stem: path.read_text(encoding="utf-8") for path in sorted(PACKAGE.glob("*.py"))}


def nodes(kind):
    found = []
    for source in sources().values():
        found += [node for node in ast.walk(ast.parse(source)) if isinstance(node, kind)]
    return found


class FilesTest(unittest.TestCase):
    def test_only_plain_python_files(self):
        names = [path.name for path in PACKAGE.iterdir() if path.name != "__pycache__"]
        self.assertIn("__init__.py", names)
        self.assertIn("screen.py", names)
        for name in names:
            self.assertRegex(name, r"^(__init__|[a-z][a-z0-9_]*)\.py$")
            self.assertNotIn(name[:-3], dir(builtins))

    def test_sizes_and_signs(self):
        for source in sources().values():
            self.assertLessEqual(len(source.splitlines()), 400)
            self.assertRegex(source, r"\A[ -~\n]*\Z")
            self.assertLessEqual(max(len(row) for row in source.split("\n")), 120)
        for node in nodes(ast.FunctionDef):
            self.assertLessEqual(node.end_lineno - node.lineno + 1, 40, node.name)

    def test_words_that_stand_nowhere(self):
        for source in sources().values():
            self.assertEqual([word for word in re.findall(r"\w+", source) if word in WORDS], [])
            self.assertIsNone(re.search("dataclass|overload|contextmanager", source))


class FormsTest(unittest.TestCase):
    def test_only_these_forms(self):
        for node in nodes(ast.AST):
            self.assertIsInstance(node, NODES, getattr(node, "lineno", ""))

    def test_the_top_of_a_file(self):
        for source in sources().values():
            tree = ast.parse(source)
            self.assertIsNotNone(ast.get_docstring(tree))
            for node in tree.body[1:]:
                self.assertIsInstance(node, (ast.ImportFrom, ast.FunctionDef, ast.ClassDef, ast.Assign))

    def test_functions_and_classes_are_plain(self):
        for node in nodes((ast.FunctionDef, ast.ClassDef)):
            self.assertEqual(node.decorator_list, [])
        for node in nodes(ast.arguments):
            self.assertEqual((node.vararg, node.kwarg, node.kwonlyargs, node.posonlyargs), (None, None, [], []))
        for node in nodes(ast.ClassDef):
            self.assertTrue(all(isinstance(part, (ast.FunctionDef, ast.Expr)) for part in node.body))

    def test_statements(self):
        for node in nodes(ast.Assign):
            self.assertEqual(len(node.targets), 1)
            self.assertNotIsInstance(node.targets[0], (ast.Tuple, ast.List))
        for node in nodes((ast.For, ast.While)):
            self.assertEqual(node.orelse, [])
        for node in nodes(ast.ListComp):
            self.assertEqual(len(node.generators), 1)
            self.assertLessEqual(len(node.generators[0].ifs), 1)
        for node in nodes((ast.Div, ast.Is, ast.IsNot)):
            self.fail("a form that is not used")


class NamesTest(unittest.TestCase):
    def test_pythons_own_names(self):
        for node in nodes(ast.Name):
            if node.id in dir(builtins):
                self.assertIn(node.id, OWN_NAMES)
                self.assertIsInstance(node.ctx, ast.Load)

    def test_names_are_plain_and_mean_one_thing(self):
        for source in sources().values():
            tree = ast.parse(source)
            taken = [alias.name for node in tree.body if isinstance(node, ast.ImportFrom) for alias in node.names]
            taken += [node.name for node in tree.body if isinstance(node, (ast.ClassDef, ast.FunctionDef))]
            self.assertEqual(len(taken), len(set(taken)))
            bound = [node.arg for node in ast.walk(tree) if isinstance(node, ast.arg)]
            bound += [node.id for node in ast.walk(tree) if isinstance(node, ast.Name) and isinstance(node.ctx, ast.Store)]
            for name in bound:
                self.assertNotIn(name, taken)
                self.assertNotIn(name, dir(builtins))
            for name in bound + taken:
                self.assertRegex(name, "^[A-Za-z]")

    def test_methods_and_values(self):
        for node in nodes(ast.Call):
            if isinstance(node.func, ast.Attribute):
                self.assertIn(node.func.attr, METHODS)
        for node in nodes(ast.Attribute):
            if isinstance(node.ctx, ast.Store):
                self.assertFalse(any(hasattr(value, node.attr) for value in PYTHONS_VALUES), node.attr)

    def test_imports(self):
        drawn = {}
        for name, source in sources().items():
            drawn[name] = []
            for node in [node for node in ast.walk(ast.parse(source)) if isinstance(node, ast.ImportFrom)]:
                self.assertEqual(node.level, 0)
                self.assertRegex(node.module, r"^foldedwindows\.[a-z]+$")
                drawn[name].append(node.module.split(".")[1])
                tops = ast.parse(sources()[drawn[name][-1]]).body
                defined = [top.name for top in tops if isinstance(top, (ast.FunctionDef, ast.ClassDef))]
                defined += [top.targets[0].id for top in tops if isinstance(top, ast.Assign)]
                for alias in node.names:
                    self.assertIsNone(alias.asname)
                    self.assertIn(alias.name, defined)
        while drawn:
            ready = [name for name in drawn if not any(other in drawn for other in drawn[name])]
            self.assertNotEqual(ready, [], "files draw from one another")
            for name in ready:
                drawn.pop(name)
