"""Checks the package's own files against the rules of the language that a reader of the tree can see."""

import ast
import builtins
import pathlib
import re
import unittest

PACKAGE = pathlib.Path(__file__).resolve().parent.parent / "exactstep"

NODES = """Module Expr Constant ImportFrom alias FunctionDef arguments arg ClassDef Assign AugAssign If While For
Return Break Continue Pass Raise Try ExceptHandler Name Load Store Tuple List Dict BinOp UnaryOp BoolOp Compare IfExp
Call keyword Attribute Subscript Slice ListComp comprehension JoinedStr FormattedValue Lambda
Add Sub Mult FloorDiv Mod Pow BitAnd BitOr BitXor LShift RShift Invert USub Not And Or
Eq NotEq Lt LtE Gt GtE In NotIn Is IsNot""".split()

OWN_NAMES = """len range enumerate zip min max sum abs sorted reversed int str bool list tuple dict set frozenset
isinstance ord repr any all divmod Exception ValueError TypeError KeyError IndexError LookupError ZeroDivisionError
ArithmeticError OverflowError RuntimeError NotImplementedError StopIteration""".split()

METHODS = """append clear copy count endswith extend find get index insert isalnum isalpha isdigit islower isspace
isupper items join keys ljust lower lstrip partition pop remove replace reverse rfind rjust rpartition rsplit rstrip
setdefault split splitlines startswith strip update upper values zfill bit_length""".split()

WORDS = """type typing typing_extensions enum Enum IntEnum StrEnum Flag IntFlag Generic Protocol ABC ABCMeta namedtuple
NamedTuple TypedDict TYPE_CHECKING abstractmethod""".split()

UNUSED = "register mro elements open input version_info with_traceback add_note".split()


def files():
    return sorted(path for path in PACKAGE.rglob("*") if path.is_file() and "__pycache__" not in path.parts)


def nodes(path):
    return list(ast.walk(ast.parse(path.read_text(encoding="utf-8"))))


class LanguageTest(unittest.TestCase):
    def test_files(self):
        self.assertIn(PACKAGE / "desk.py", files())
        for path in files():
            self.assertRegex(path.name, r"^([a-z][a-z0-9_]*|__init__)\.py$")
            self.assertFalse(path.stem != "__init__" and hasattr(builtins, path.stem), path.name)

    def test_signs_and_sizes(self):
        for path in files():
            text = path.read_text(encoding="utf-8")
            self.assertIsNone(re.search(r"[^ -~\n]", text))
            self.assertLessEqual(len(text.splitlines()), 400)
            self.assertLessEqual(max(map(len, text.splitlines())), 120)
            for word in re.findall(r"\w+", text):
                self.assertNotIn(word, WORDS)
            self.assertIsNone(re.search("dataclass|overload|contextmanager", text))

    def test_nodes(self):
        for path in files():
            for node in nodes(path):
                self.assertIn(node.__class__.__name__, NODES)
                if isinstance(node, ast.Constant):
                    self.assertNotIsInstance(node.value, (float, bytes, complex))
                if isinstance(node, ast.Assign):
                    self.assertEqual(len(node.targets), 1)
                    self.assertNotIsInstance(node.targets[0], ast.Tuple)
                if isinstance(node, ast.FormattedValue):
                    self.assertIsInstance(node.value, ast.Name)
                if isinstance(node, ast.ListComp):
                    self.assertEqual(len(node.generators), 1)
                    self.assertLessEqual(len(node.generators[0].ifs), 1)
                if isinstance(node, ast.BinOp) and isinstance(node.op, ast.Pow):
                    self.assertIsInstance(node.right, ast.Constant)
                if isinstance(node, (ast.For, ast.While)):
                    self.assertEqual(node.orelse, [])

    def test_functions(self):
        for path in files():
            for node in nodes(path):
                if isinstance(node, ast.FunctionDef):
                    self.assertLessEqual(node.end_lineno - node.lineno + 1, 40)
                    self.assertEqual(node.decorator_list, [])
                    self.assertIsNone(node.args.vararg or node.args.kwarg or node.returns)
                    self.assertEqual(node.args.kwonlyargs + node.args.posonlyargs, [])

    def test_imports(self):
        for path in files():
            for node in nodes(path):
                if isinstance(node, ast.ImportFrom):
                    self.assertEqual(node.level, 0)
                    self.assertTrue(node.module.startswith("exactstep."))
                    source = PACKAGE / (node.module.split(".")[1] + ".py")
                    names = self.top_names(ast.parse(source.read_text(encoding="utf-8")))
                    for name in node.names:
                        self.assertIn(name.name, names)
                        self.assertIsNone(name.asname)

    def top_names(self, module):
        names = []
        for node in module.body:
            if isinstance(node, (ast.FunctionDef, ast.ClassDef)):
                names.append(node.name)
            if isinstance(node, ast.Assign):
                names.append(node.targets[0].id)
        self.assertEqual(len(names), len(set(names)))
        return names

    def test_no_file_draws_from_itself(self):
        drawn = {}
        for path in files():
            sources = [node.module.split(".")[1] for node in nodes(path) if isinstance(node, ast.ImportFrom)]
            drawn[path.stem] = set(sources)
        for _ in drawn:
            for stem in drawn:
                for source in list(drawn[stem]):
                    drawn[stem] |= drawn[source]
        for stem in drawn:
            self.assertNotIn(stem, drawn[stem])

    def test_names(self):
        for path in files():
            imported = [name.name for node in nodes(path) if isinstance(node, ast.ImportFrom) for name in node.names]
            for node in nodes(path):
                if isinstance(node, ast.Name) and isinstance(node.ctx, ast.Load) and hasattr(builtins, node.id):
                    self.assertIn(node.id, OWN_NAMES)
                bound = None
                if isinstance(node, ast.Name) and isinstance(node.ctx, ast.Store):
                    bound = node.id
                if isinstance(node, ast.arg):
                    bound = node.arg
                if isinstance(node, (ast.FunctionDef, ast.ClassDef)) and node.name != "__init__":
                    bound = node.name
                if bound is not None:
                    self.assertFalse(hasattr(builtins, bound), bound)
                    self.assertFalse(bound.startswith("_"), bound)
                    self.assertNotIn(bound, imported + UNUSED)

    def test_attributes(self):
        own = []
        for path in files():
            for node in nodes(path):
                if isinstance(node, ast.Attribute) and isinstance(node.ctx, ast.Store):
                    own.append(node.attr)
                if isinstance(node, ast.ClassDef):
                    own += [part.name for part in node.body if isinstance(part, ast.FunctionDef)]
        for name in set(own) - {"__init__"}:
            for python_class in (str, int, list, tuple, dict, set, bytes):
                self.assertFalse(hasattr(python_class, name), name)
        for path in files():
            for node in nodes(path):
                if isinstance(node, ast.Attribute):
                    self.assertIn(node.attr, METHODS + own)


if __name__ == "__main__":
    unittest.main()
