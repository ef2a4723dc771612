"""The rules of LANGUAGE.md that can be seen row by row, over the package's own files."""

import ast
import os
import re
import unittest

PACKAGE = os.path.join(os.path.dirname(os.path.dirname(os.path.abspath(__file__))), "hourstheyhave")
OWN_NAMES = set("""len range enumerate zip min max sum abs sorted reversed int str bool list tuple dict set frozenset
    isinstance ord repr any all divmod Exception ValueError TypeError KeyError IndexError LookupError
    ZeroDivisionError ArithmeticError OverflowError RuntimeError NotImplementedError StopIteration""".split())
METHODS = set("""append clear copy count endswith extend find get index insert isalnum isalpha isdigit islower isspace
    isupper items join keys ljust lower lstrip partition pop remove replace reverse rfind rjust rpartition rsplit
    rstrip setdefault split splitlines startswith strip update upper values zfill bit_length""".split())
WORDS = re.compile(r"\b(type|typing|typing_extensions|enum|Enum|IntEnum|StrEnum|Flag|IntFlag|Generic|Protocol|ABC|"
                   r"ABCMeta|namedtuple|NamedTuple|TypedDict|TYPE_CHECKING|abstractmethod)\b"
                   r"|dataclass|overload|contextmanager")
BUILTINS = set(dir(__builtins__) if not isinstance(__builtins__, dict) else __builtins__)
NODES = (
    ast.Module, ast.FunctionDef, ast.ClassDef, ast.Return, ast.Assign, ast.AugAssign, ast.For, ast.While, ast.If,
    ast.Raise, ast.Try, ast.ImportFrom, ast.Expr, ast.Pass, ast.Break, ast.Continue, ast.BoolOp, ast.BinOp,
    ast.UnaryOp, ast.Lambda, ast.IfExp, ast.Dict, ast.ListComp, ast.Compare, ast.Call, ast.JoinedStr,
    ast.FormattedValue, ast.Constant, ast.Attribute, ast.Subscript, ast.Name, ast.List, ast.Tuple, ast.Slice,
    ast.comprehension, ast.ExceptHandler, ast.arguments, ast.arg, ast.alias, ast.keyword, ast.expr_context,
    ast.boolop, ast.operator, ast.unaryop, ast.cmpop,
)


def sources():
    for name in sorted(os.listdir(PACKAGE)):
        if name != "__pycache__":
            with open(os.path.join(PACKAGE, name), encoding="utf-8") as file:
                yield name, file.read()


def nodes(kind):
    for name, text in sources():
        for node in ast.walk(ast.parse(text)):
            if isinstance(node, kind):
                yield name, node


class Language(unittest.TestCase):
    def test_files(self):
        for name, text in sources():
            self.assertRegex(name, r"^(__init__|[a-z][a-z0-9_]*)\.py$")
            self.assertNotIn(name[:-3], BUILTINS)
            self.assertLessEqual(len(text.splitlines()), 400, name)
            for row in text.split("\n"):
                self.assertLessEqual(len(row), 120, (name, row))
                self.assertRegex(row, r"^[ -~]*$", name)
                self.assertIsNone(WORDS.search(row), (name, row))

    def test_sorts_of_nodes(self):
        for name, node in nodes(ast.AST):
            self.assertIsInstance(node, NODES, (name, getattr(node, "lineno", 0)))

    def test_functions(self):
        for name, node in nodes(ast.FunctionDef):
            self.assertLessEqual(node.end_lineno - node.lineno + 1, 40, (name, node.name))
            self.assertFalse(node.decorator_list or node.returns or node.args.vararg or node.args.kwarg)
            self.assertFalse(node.args.kwonlyargs or node.args.posonlyargs)

    def test_imports(self):
        drawn = {}
        for name, node in nodes(ast.ImportFrom):
            self.assertEqual(node.level, 0)
            self.assertRegex(node.module, r"^hourstheyhave\.[a-z]+$")
            drawn.setdefault(name[:-3], []).append(node.module.split(".")[1])
        while drawn:
            ends = [name for name in drawn if not any(other in drawn for other in drawn[name])]
            self.assertTrue(ends, "files draw from one another: %s" % drawn)
            for name in ends:
                drawn.pop(name)

    def test_names(self):
        for name, node in nodes((ast.Name, ast.arg)):
            word = node.id if isinstance(node, ast.Name) else node.arg
            self.assertRegex(word, r"^[A-Za-z][A-Za-z0-9_]*$", name)
            if word in BUILTINS:
                self.assertIn(word, OWN_NAMES, (name, node.lineno))
                self.assertIsInstance(node.ctx, ast.Load, (name, node.lineno))

    def test_methods_and_values(self):
        own = {item.name for name, node in nodes(ast.ClassDef) for item in node.body if isinstance(item, ast.FunctionDef)}
        values = {node.attr for name, node in nodes(ast.Attribute) if isinstance(node.ctx, ast.Store)}
        self.assertFalse(own & values)
        taken = {word for kind in (str, int, list, dict, set, bytes) for word in dir(kind)}
        self.assertFalse((own | values) & taken - METHODS - {"__init__", "__eq__", "__repr__", "__str__", "__len__"})
        for name, node in nodes(ast.Attribute):
            self.assertIn(node.attr, own | values | METHODS, (name, node.lineno))

    def test_assignments(self):
        for name, node in nodes(ast.Assign):
            self.assertEqual(len(node.targets), 1, (name, node.lineno))
        for name, node in nodes((ast.For, ast.While)):
            self.assertFalse(node.orelse, (name, node.lineno))

    def test_expressions(self):
        for name, node in nodes(ast.ListComp):
            self.assertEqual(len(node.generators), 1, (name, node.lineno))
            self.assertLessEqual(len(node.generators[0].ifs), 1, (name, node.lineno))
        for name, node in nodes((ast.BinOp, ast.AugAssign)):
            self.assertNotIsInstance(node.op, (ast.Div, ast.Pow, ast.MatMult), (name, node.lineno))
        for name, node in nodes(ast.Compare):
            if isinstance(node.ops[0], (ast.Is, ast.IsNot)):
                self.assertIn(ast.unparse(node.comparators[0]), ("None", "True", "False"), (name, node.lineno))
        for name, node in nodes(ast.Constant):
            self.assertIn(type(node.value), (int, str, bool, type(None)), (name, node.lineno))

    def test_top_of_a_file(self):
        for name, text in sources():
            bound = []
            for node in ast.parse(text).body:
                self.assertIsInstance(node, (ast.Expr, ast.ImportFrom, ast.FunctionDef, ast.ClassDef, ast.Assign))
                if isinstance(node, ast.ImportFrom):
                    bound += [alias.name for alias in node.names]
                elif isinstance(node, ast.Assign):
                    bound.append(node.targets[0].id)
                elif not isinstance(node, ast.Expr):
                    bound.append(node.name)
            self.assertEqual(len(bound), len(set(bound)), name)
            locals_of_file = {node.arg for node in ast.walk(ast.parse(text)) if isinstance(node, ast.arg)}
            for part in ast.parse(text).body:
                if isinstance(part, (ast.FunctionDef, ast.ClassDef)):
                    locals_of_file |= {node.id for node in ast.walk(part)
                                       if isinstance(node, ast.Name) and isinstance(node.ctx, ast.Store)}
            self.assertFalse(locals_of_file & set(bound), name)

    def test_every_import_is_used(self):
        for name, text in sources():
            tree = ast.parse(text)
            used = {node.id for node in ast.walk(tree) if isinstance(node, ast.Name)}
            for node in tree.body:
                if isinstance(node, ast.ImportFrom):
                    for alias in node.names:
                        self.assertIn(alias.name, used, name)


if __name__ == "__main__":
    unittest.main()
