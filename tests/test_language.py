"""The package's files against those rules of LANGUAGE.md that can be seen in the code."""

import ast
import builtins
import pathlib
import re
import unittest

PACKAGE = pathlib.Path(__file__).resolve().parent.parent / "yesnotables"

STATEMENTS = (
    ast.FunctionDef, ast.ClassDef, ast.ImportFrom, ast.Assign, ast.AugAssign, ast.If, ast.While, ast.For, ast.Return,
    ast.Break, ast.Continue, ast.Pass, ast.Raise, ast.Try, ast.Expr)

EXPRESSIONS = (
    ast.Constant, ast.List, ast.Tuple, ast.Dict, ast.Set, ast.BinOp, ast.UnaryOp, ast.BoolOp, ast.Compare, ast.IfExp,
    ast.Call, ast.Attribute, ast.Subscript, ast.Slice, ast.ListComp, ast.JoinedStr, ast.FormattedValue, ast.Lambda,
    ast.Name)

OWN_OF_PYTHON = set((
    "len range enumerate zip min max sum abs sorted reversed int str bool list tuple dict set frozenset isinstance "
    "ord repr any all divmod Exception ValueError TypeError KeyError IndexError LookupError ZeroDivisionError "
    "ArithmeticError OverflowError RuntimeError NotImplementedError AttributeError StopIteration").split())

METHODS = set((
    "append clear copy count endswith extend find get index insert isalnum isalpha isdigit islower isspace isupper "
    "items join keys ljust lower lstrip partition pop remove replace reverse rfind rjust rpartition rsplit rstrip "
    "setdefault split splitlines startswith strip update upper values zfill bit_length").split())

OWN_METHODS_OF_TWO = ("__init__", "__eq__", "__repr__", "__str__", "__len__")

BARRED_WORDS = re.compile(
    r"\b(type|typing|typing_extensions|enum|Enum|IntEnum|StrEnum|Flag|IntFlag|Generic|Protocol|ABC|ABCMeta|namedtuple"
    r"|NamedTuple|TypedDict|TYPE_CHECKING|abstractmethod)\b|dataclass|overload|contextmanager")

BARRED_NAMES = set((
    "register mro elements open input version_info with_traceback add_note attrgetter breakpoint builtins compile "
    "copyright credits delattr dir eval exec exit gc getattr globals hasattr help id importlib license locals "
    "methodcaller os quit setattr super type vars sys print chr").split())


def files():
    return sorted(PACKAGE.glob("*.py"))


def parsed():
    return [(path.name, ast.parse(path.read_text(encoding="utf-8"))) for path in files()]


def is_plain(value, functions):
    """A plain value of a file's top: texts, numbers, and tuples, lists and dicts of these and of functions above."""
    if isinstance(value, ast.UnaryOp) and isinstance(value.op, ast.USub):
        return isinstance(value.operand, ast.Constant)
    if isinstance(value, (ast.Tuple, ast.List)):
        return all(is_plain(part, functions) for part in value.elts)
    if isinstance(value, ast.Dict):
        return all(isinstance(key, ast.Constant) for key in value.keys) and all(
            is_plain(part, functions) for part in value.values)
    if isinstance(value, ast.Name):
        return value.id in functions
    return isinstance(value, ast.Constant)


class Files(unittest.TestCase):
    def test_nothing_else_lies_in_the_package(self):
        for path in PACKAGE.iterdir():
            if path.name != "__pycache__":
                self.assertRegex(path.name, r"^(__init__|[a-z][a-z0-9_]*)\.py$")
        self.assertIn(PACKAGE / "tables.py", files())

    def test_signs_and_size(self):
        for path in files():
            text = path.read_text(encoding="utf-8")
            self.assertRegex(text, r"\A[ -~\n]*\Z", msg=path.name)
            self.assertIsNone(BARRED_WORDS.search(text), msg=path.name)
            lines = text.split("\n")
            self.assertLessEqual(len(lines), 399, msg=path.name)
            self.assertLessEqual(max(len(line) for line in lines), 120, msg=path.name)

    def test_top(self):
        for name, tree in parsed():
            functions = []
            bound = []
            for place, part in enumerate(tree.body):
                where = f"{name}:{part.lineno}"
                if isinstance(part, (ast.FunctionDef, ast.ClassDef)):
                    functions += [part.name] if isinstance(part, ast.FunctionDef) else []
                    bound.append(part.name)
                elif isinstance(part, ast.ImportFrom):
                    self.assertEqual(part.level, 0, msg=where)
                    self.assertRegex(part.module, r"^yesnotables\.", msg=where)
                    bound += [alias.name for alias in part.names]
                elif isinstance(part, ast.Assign):
                    self.assertTrue(is_plain(part.value, functions), msg=where)
                    bound.append(part.targets[0].id)
                else:
                    self.assertEqual(place, 0, msg=where)
                    self.assertIsInstance(part.value.value, str, msg=where)
            self.assertEqual(len(bound), len(set(bound)), msg=name)


class Code(unittest.TestCase):
    def test_statements_and_expressions(self):
        for name, tree in parsed():
            for node in ast.walk(tree):
                where = f"{name}:{getattr(node, 'lineno', 0)}"
                if isinstance(node, ast.stmt):
                    self.assertIsInstance(node, STATEMENTS, msg=where)
                if isinstance(node, ast.expr):
                    self.assertIsInstance(node, EXPRESSIONS, msg=where)
                if isinstance(node, ast.Assign):
                    self.assertEqual(len(node.targets), 1, msg=where)
                if isinstance(node, ast.Expr) and node not in tree.body[:1]:
                    self.assertIsInstance(node.value, ast.Call, msg=where)
                if isinstance(node, (ast.For, ast.While)):
                    self.assertEqual(node.orelse, [], msg=where)
                if isinstance(node, ast.BinOp):
                    self.assertNotIsInstance(node.op, (ast.Div, ast.MatMult), msg=where)
                    self.assertFalse(isinstance(node.op, ast.Pow) and not isinstance(node.right, ast.Constant), where)
                if isinstance(node, ast.ListComp):
                    self.assertEqual(len(node.generators), 1, msg=where)
                    self.assertLessEqual(len(node.generators[0].ifs), 1, msg=where)

    def test_defs(self):
        for name, tree in parsed():
            for node in ast.walk(tree):
                if isinstance(node, ast.FunctionDef):
                    where = f"{name}:{node.lineno}"
                    self.assertLessEqual(node.end_lineno - node.lineno + 1, 40, msg=where)
                    self.assertEqual((node.decorator_list, node.args.vararg, node.args.kwarg), ([], None, None), where)
                    self.assertEqual((node.args.kwonlyargs, node.args.posonlyargs), ([], []), msg=where)

    def test_names(self):
        for name, tree in parsed():
            taken = {node.name for node in tree.body if isinstance(node, ast.ClassDef)}
            for node in tree.body:
                if isinstance(node, ast.ImportFrom):
                    taken |= {alias.name for alias in node.names}
            for node in ast.walk(tree):
                where = f"{name}:{getattr(node, 'lineno', 0)}"
                given = node.arg if isinstance(node, ast.arg) else None
                if isinstance(node, ast.Name):
                    self.assertNotIn(node.id, BARRED_NAMES, msg=where)
                    if node.id in dir(builtins):
                        self.assertIn(node.id, OWN_OF_PYTHON, msg=where)
                    given = node.id if isinstance(node.ctx, ast.Store) else None
                if isinstance(node, (ast.FunctionDef, ast.ClassDef)) and node.name not in OWN_METHODS_OF_TWO:
                    self.assertRegex(node.name, r"^[A-Za-z][A-Za-z0-9_]*$", msg=where)
                if given is not None:
                    self.assertRegex(given, r"^[A-Za-z][A-Za-z0-9_]*$", msg=where)
                    self.assertNotIn(given, dir(builtins), msg=where)
                    self.assertNotIn(given, taken, msg=where)

    def test_methods(self):
        own = set()
        for name, tree in parsed():
            for node in ast.walk(tree):
                if isinstance(node, ast.ClassDef):
                    own |= {part.name for part in node.body if isinstance(part, ast.FunctionDef)}
        for name, tree in parsed():
            for node in ast.walk(tree):
                if isinstance(node, ast.Call) and isinstance(node.func, ast.Attribute):
                    self.assertIn(node.func.attr, own | METHODS, msg=f"{name}:{node.lineno}")

    def test_interface_stands_where_its_name_tells(self):
        places = [name for name, tree in parsed() for node in tree.body
                  if isinstance(node, ast.FunctionDef) and node.name == "answers"]
        self.assertEqual(places, ["tables.py"])


if __name__ == "__main__":
    unittest.main()
