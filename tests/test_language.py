"""The package keeps to the small part of the language: what of its rules can be seen file by file."""

import ast
import builtins
import pathlib
import re
import unittest

PACKAGE = pathlib.Path(__file__).resolve().parent.parent / "colourskept"
SOURCES = {path.name: path.read_text("utf-8") for path in sorted(PACKAGE.glob("*.py"))}
TREES = {name: ast.parse(source) for name, source in SOURCES.items()}

STATEMENTS = (ast.Assign, ast.AugAssign, ast.If, ast.While, ast.For, ast.Return, ast.Break, ast.Continue, ast.Pass,
              ast.Raise, ast.Try, ast.Expr, ast.FunctionDef, ast.ClassDef, ast.ImportFrom)
EXPRESSIONS = (ast.Constant, ast.List, ast.Tuple, ast.Dict, ast.BinOp, ast.UnaryOp, ast.Compare, ast.BoolOp, ast.IfExp,
               ast.Call, ast.Attribute, ast.Subscript, ast.Slice, ast.ListComp, ast.JoinedStr, ast.FormattedValue,
               ast.Name, ast.Lambda)
BUILT_IN = """len range enumerate zip min max sum abs sorted reversed int str bool list tuple dict set frozenset
isinstance ord repr any all divmod Exception ValueError KeyError IndexError LookupError ZeroDivisionError
ArithmeticError OverflowError RuntimeError NotImplementedError StopIteration""".split()
METHODS = """append clear copy count endswith extend find get index insert items join keys pop remove replace reverse
setdefault split update values""".split()
WORDS = """type typing typing_extensions enum Enum IntEnum StrEnum Flag IntFlag Generic Protocol ABC ABCMeta namedtuple
NamedTuple TypedDict TYPE_CHECKING abstractmethod register mro elements open input""".split()


def nodes(kinds):
    return [(name, node) for name, tree in TREES.items() for node in ast.walk(tree) if isinstance(node, kinds)]


class Language(unittest.TestCase):
    def test_files(self):
        self.assertIn("desk.py", SOURCES)
        self.assertIn("__init__.py", SOURCES)
        others = [path.name for path in PACKAGE.iterdir() if path.name not in SOURCES and path.name != "__pycache__"]
        self.assertEqual(others, [])

    def test_sizes_and_signs(self):
        for name, source in SOURCES.items():
            with self.subTest(file=name):
                self.assertLessEqual(len(source.splitlines()), 400)
                self.assertLessEqual(max(len(line) for line in source.splitlines()), 120)
                self.assertTrue(all(sign == "\n" or " " <= sign <= "~" for sign in source))
        for name, node in nodes(ast.FunctionDef):
            self.assertLessEqual(node.end_lineno - node.lineno + 1, 40, (name, node.name))

    def test_words_that_stand_nowhere(self):
        for name, source in SOURCES.items():
            found = set(re.findall(r"\w+", source))
            self.assertEqual(sorted(found & set(WORDS)), [], name)

    def test_statements_and_expressions(self):
        for name, node in nodes((ast.stmt, ast.expr)):
            with self.subTest(file=name, line=node.lineno):
                self.assertIsInstance(node, STATEMENTS + EXPRESSIONS)
        for name, node in nodes(ast.Assign):
            self.assertEqual([type(target) in (ast.Name, ast.Attribute, ast.Subscript) for target in node.targets],
                             [True], (name, node.lineno))
        for name, node in nodes((ast.For, ast.While, ast.FunctionDef, ast.ClassDef)):
            self.assertEqual(getattr(node, "orelse", []), [], (name, node.lineno))
            self.assertEqual(getattr(node, "decorator_list", []), [], (name, node.lineno))

    def test_imports(self):
        for name, node in nodes(ast.ImportFrom):
            with self.subTest(file=name, line=node.lineno):
                self.assertEqual(node.level, 0)
                source = TREES[node.module.removeprefix("colourskept.") + ".py"]
                defined = [made.name for made in source.body if isinstance(made, (ast.FunctionDef, ast.ClassDef))]
                defined += [made.targets[0].id for made in source.body if isinstance(made, ast.Assign)]
                self.assertEqual([alias.name for alias in node.names if alias.name not in defined], [])

    def test_names(self):
        for name, tree in TREES.items():
            bound = {node.id for node in ast.walk(tree) if isinstance(node, ast.Name)
                     and isinstance(node.ctx, ast.Store)}
            bound |= {node.arg for node in ast.walk(tree) if isinstance(node, ast.arg)}
            made = {node.name for node in ast.walk(tree) if isinstance(node, (ast.FunctionDef, ast.ClassDef))}
            drawn = {alias.name for node in ast.walk(tree) if isinstance(node, ast.ImportFrom) for alias in node.names}
            read = {node.id for node in ast.walk(tree) if isinstance(node, ast.Name)}
            with self.subTest(file=name):
                self.assertEqual([given for given in bound | made if given.startswith("_") and given != "__init__"], [])
                self.assertEqual(sorted(read - bound - made - drawn - set(BUILT_IN)), [])
                self.assertEqual(sorted((bound | made) & set(dir(builtins))), [])
                self.assertEqual(sorted(bound & drawn), [])

    def test_methods(self):
        values, methods = set(), set()
        for name, node in nodes(ast.Attribute):
            if isinstance(node.ctx, ast.Store):
                values.add(node.attr)
        for name, node in nodes(ast.ClassDef):
            methods |= {made.name for made in node.body if isinstance(made, ast.FunctionDef)}
        self.assertEqual(sorted(values & methods), [])
        for name, node in nodes(ast.Attribute):
            self.assertIn(node.attr, sorted(values | methods) + METHODS, (name, node.lineno))
        taken = {attribute for kind in (str, int, list, dict, set, bytes) for attribute in dir(kind)}
        self.assertEqual(sorted((values | methods) & taken - {"__init__"}), [])


if __name__ == "__main__":
    unittest.main()
