"""The rules of LANGUAGE.md that can be seen in a file without running it, asked of the package's own files."""

import ast
import builtins
import pathlib
import re
import unittest

PACKAGE = pathlib.Path(__file__).resolve().parent.parent / "idlehosts"

NODES = (
    "Module FunctionDef ClassDef arguments arg Lambda ImportFrom alias "
    "Assign AugAssign If While For Return Break Continue Pass Raise Try ExceptHandler Expr Call keyword "
    "Constant List Tuple Dict Set Name Attribute Subscript Slice ListComp comprehension IfExp JoinedStr FormattedValue "
    "BinOp UnaryOp BoolOp Compare Add Sub Mult FloorDiv Mod Pow BitAnd BitOr BitXor LShift RShift Invert USub UAdd Not "
    "And Or Eq NotEq Lt LtE Gt GtE Is IsNot In NotIn Load Store").split()

BUILTINS = (
    "len range enumerate zip min max sum abs sorted reversed int str bool list tuple dict set frozenset isinstance ord "
    "repr any all divmod Exception ValueError TypeError KeyError IndexError LookupError ZeroDivisionError "
    "ArithmeticError OverflowError RuntimeError NotImplementedError AttributeError StopIteration").split()

METHODS = (
    "append clear copy count endswith extend find get index insert isalnum isalpha isdigit islower isspace isupper items "
    "join keys ljust lower lstrip partition pop remove replace reverse rfind rjust rpartition rsplit rstrip setdefault "
    "split splitlines startswith strip update upper values zfill bit_length").split()

UNUSED = (
    "register mro elements open input version_info with_traceback add_note attrgetter breakpoint builtins compile "
    "copyright credits delattr dir eval exec exit gc getattr globals hasattr help id importlib license locals "
    "methodcaller os quit setattr super vars sys").split()

WORDS = (
    r"\b(type|typing|typing_extensions|enum|Enum|IntEnum|StrEnum|Flag|IntFlag|Generic|Protocol|ABC|ABCMeta|namedtuple|"
    r"NamedTuple|TypedDict|TYPE_CHECKING|abstractmethod)\b|dataclass|overload|contextmanager")

OF_VALUES = {name for value in ("", 0, [], {}, set(), b"") for name in dir(value)}


def files():
    return sorted(PACKAGE.glob("*.py"))


def nodes(path):
    return list(ast.walk(ast.parse(path.read_text())))


def bound_names(path):
    names = []
    for node in nodes(path):
        if isinstance(node, ast.Name) and isinstance(node.ctx, ast.Store):
            names.append(node.id)
        if isinstance(node, ast.arg):
            names.append(node.arg)
        if isinstance(node, (ast.FunctionDef, ast.ClassDef)):
            names.append(node.name)
    return names


class Language(unittest.TestCase):
    def test_files(self):
        for path in PACKAGE.iterdir():
            if path.name != "__pycache__":
                self.assertRegex(path.name, r"^(__init__|__main__|[a-z][a-z0-9_]*)\.py$")
                self.assertNotIn(path.stem, dir(builtins))
        self.assertIn("__init__.py", [path.name for path in files()])

    def test_signs_words_and_sizes(self):
        for path in files():
            text = path.read_text()
            self.assertRegex(text, r"^[ -~\n]*$")
            self.assertIsNone(re.search(WORDS, text), path.name)
            lines = text.split("\n")
            self.assertLessEqual(len(lines), 400)
            self.assertLessEqual(max(len(line) for line in lines), 120)
            for node in nodes(path):
                if isinstance(node, ast.FunctionDef):
                    self.assertLessEqual(node.end_lineno - node.lineno + 1, 40, node.name)

    def test_forms(self):
        for path in files():
            for node in nodes(path):
                self.assertIn(type(node).__name__, NODES, path.name)
                if isinstance(node, (ast.FunctionDef, ast.ClassDef)):
                    self.assertEqual(node.decorator_list, [])
                if isinstance(node, ast.arguments):
                    self.assertEqual((node.vararg, node.kwarg, node.kwonlyargs, node.posonlyargs), (None, None, [], []))
                if isinstance(node, (ast.For, ast.While)):
                    self.assertEqual(node.orelse, [])
                if isinstance(node, ast.Assign):
                    self.assertEqual(len(node.targets), 1)
                    self.assertNotIsInstance(node.targets[0], (ast.Tuple, ast.List))
                if isinstance(node, ast.Constant):
                    self.assertIn(type(node.value), (int, str, bool, type(None)))
                if isinstance(node, ast.ClassDef):
                    self.assertLessEqual(len(node.bases), 1)
                    for inner in node.body:
                        self.assertIsInstance(inner, (ast.FunctionDef, ast.Pass))

    def test_tops(self):
        for path in files():
            body = ast.parse(path.read_text()).body
            self.assertIsInstance(body[0], ast.Expr)
            for node in body[1:]:
                self.assertIsInstance(node, (ast.ImportFrom, ast.FunctionDef, ast.ClassDef, ast.Assign))

    def test_imports_go_one_way(self):
        drawn = {}
        for path in files():
            imports = [node for node in nodes(path) if isinstance(node, ast.ImportFrom)]
            for node in imports:
                self.assertEqual(node.level, 0)
                self.assertRegex(node.module, r"^idlehosts\.[a-z_]+$")
                defined = bound_names(PACKAGE / (node.module.split(".")[1] + ".py"))
                for name in node.names:
                    self.assertIn(name.name, defined)
            drawn[path.stem] = {node.module.split(".")[1] for node in imports}
        self.assertEqual(drawn["__init__"], set())
        while drawn:
            free = [name for name in drawn if not drawn[name] & set(drawn)]
            self.assertNotEqual(free, [], "files draw from one another")
            drawn = {name: drawn[name] for name in drawn if name not in free}

    def test_names(self):
        for path in files():
            for name in bound_names(path):
                if name != "__init__":
                    self.assertRegex(name, r"^[A-Za-z][A-Za-z0-9_]*$")
                    self.assertNotIn(name, dir(builtins))
                    self.assertNotIn(name, UNUSED)
            for node in nodes(path):
                if isinstance(node, ast.Name) and node.id in dir(builtins):
                    self.assertIn(node.id, BUILTINS)

    def test_methods_and_values_of_objects(self):
        methods = []
        values = []
        for path in files():
            for node in nodes(path):
                if isinstance(node, ast.ClassDef):
                    methods.extend(inner.name for inner in node.body if isinstance(inner, ast.FunctionDef))
                if isinstance(node, ast.Attribute):
                    self.assertNotIn(node.attr, UNUSED)
                    if isinstance(node.ctx, ast.Store):
                        values.append(node.attr)
                    elif node.attr in OF_VALUES:
                        self.assertIn(node.attr, METHODS)
        self.assertEqual(set(methods) & set(values), set())
        self.assertEqual((set(methods) | set(values)) & OF_VALUES, {"__init__"})

    def test_is_stands_beside_none_true_and_false(self):
        for path in files():
            for node in nodes(path):
                if isinstance(node, ast.Compare) and isinstance(node.ops[0], (ast.Is, ast.IsNot)):
                    self.assertIsInstance(node.comparators[0], ast.Constant)


if __name__ == "__main__":
    unittest.main()
