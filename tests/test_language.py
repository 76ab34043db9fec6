"""The package keeps to its small part of the language, as far as a walk over its code can tell."""

import ast
import builtins
import pathlib
import re
import unittest

FOLDER = pathlib.Path(__file__).resolve().parent.parent / "waysask"
FILES = sorted(path for path in FOLDER.rglob("*") if "__pycache__" not in path.parts)

STATEMENTS = ("Module FunctionDef ClassDef Assign AugAssign If While For Return Break Continue Pass Raise Try "
              "ExceptHandler Expr ImportFrom").split()
EXPRESSIONS = ("Constant Name Attribute Subscript Slice Call List Tuple Dict ListComp comprehension BinOp UnaryOp "
               "BoolOp Compare IfExp Lambda JoinedStr FormattedValue keyword alias arguments arg Load Store").split()
SIGNS = ("Add Sub Mult FloorDiv Mod Pow BitAnd BitOr BitXor LShift RShift Invert Not USub UAdd And Or "
         "Eq NotEq Lt LtE Gt GtE In NotIn Is IsNot").split()
OWN_NAMES = ("len range enumerate zip min max sum abs sorted reversed int str bool list tuple dict isinstance ord "
             "repr any all divmod Exception ValueError KeyError").split()
METHODS = ("append clear copy count endswith extend find get index insert items join keys pop remove replace reverse "
           "setdefault split startswith strip update values bit_length").split()
WORDS = ("type typing typing_extensions enum Enum IntEnum StrEnum Flag IntFlag Generic Protocol ABC ABCMeta "
         "namedtuple NamedTuple TypedDict TYPE_CHECKING abstractmethod").split()
NOT_NAMES = ("register mro elements open input version_info with_traceback add_note attrgetter breakpoint builtins "
             "compile delattr dir eval exec exit gc getattr globals hasattr help id importlib locals os quit setattr "
             "super type vars sys format").split()


def walk(path):
    return ast.walk(ast.parse(path.read_text(encoding="utf-8")))


class Language(unittest.TestCase):
    def test_files(self):
        self.assertIn(FOLDER / "__init__.py", FILES)
        self.assertIn(FOLDER / "asking.py", FILES)
        for path in FILES:
            self.assertTrue(re.fullmatch(r"[a-z0-9_]+\.py", path.name), path)
            self.assertNotIn(path.stem, dir(builtins))

    def test_signs_and_sizes(self):
        for path in FILES:
            text = path.read_bytes()
            self.assertTrue(all(sign == 10 or 32 <= sign <= 126 for sign in text), path)
            lines = text.decode().split("\n")
            self.assertLessEqual(len(lines), 400, path)
            self.assertLessEqual(max(len(line) for line in lines), 120, path)

    def test_words(self):
        for path in FILES:
            found = re.findall(r"[A-Za-z0-9_]+", path.read_text())
            self.assertEqual([word for word in found if word in WORDS], [], path)

    def test_kinds_of_code(self):
        allowed = {*STATEMENTS, *EXPRESSIONS, *SIGNS}
        for path in FILES:
            found = {type(node).__name__ for node in walk(path)}
            self.assertEqual(found - allowed, set(), path)

    def test_functions(self):
        for path in FILES:
            for node in walk(path):
                if isinstance(node, ast.FunctionDef):
                    self.assertLessEqual(node.end_lineno - node.lineno + 1, 40, node.name)
                    self.assertEqual(node.decorator_list, [])
                    self.assertIsNone(node.args.vararg or node.args.kwarg)
                    self.assertEqual(node.args.kwonlyargs, [])
                if isinstance(node, ast.Assign):
                    self.assertEqual(len(node.targets), 1)
                if isinstance(node, (ast.While, ast.For)):
                    self.assertEqual(node.orelse, [])
                if isinstance(node, ast.ListComp):
                    self.assertEqual(len(node.generators), 1)
                    self.assertLessEqual(len(node.generators[0].ifs), 1)

    def test_imports(self):
        for path in FILES:
            for node in walk(path):
                if isinstance(node, ast.ImportFrom):
                    self.assertEqual(node.level, 0)
                    self.assertTrue(node.module.startswith("waysask."), node.module)
                    self.assertNotIn("*", [one.name for one in node.names])

    def test_names(self):
        for path in FILES:
            for node in walk(path):
                if isinstance(node, ast.Name):
                    self.name(node.id, isinstance(node.ctx, ast.Store))
                if isinstance(node, ast.arg):
                    self.name(node.arg, True)
                if isinstance(node, ast.Attribute):
                    self.assertFalse(node.attr.startswith("_"), node.attr)
                    self.assertNotIn(node.attr, NOT_NAMES)

    def name(self, name, bound):
        self.assertTrue(re.fullmatch(r"[A-Za-z][A-Za-z0-9_]*", name), name)
        self.assertNotIn(name, NOT_NAMES)
        if bound:
            self.assertNotIn(name, dir(builtins))
        elif name in dir(builtins):
            self.assertIn(name, OWN_NAMES)

    def test_methods(self):
        own = {node.name for path in FILES for node in walk(path) if isinstance(node, ast.FunctionDef)}
        for path in FILES:
            for node in walk(path):
                if isinstance(node, ast.Call) and isinstance(node.func, ast.Attribute):
                    self.assertIn(node.func.attr, {*METHODS, *own})


if __name__ == "__main__":
    unittest.main()
