"""The package's files keep to the small part of Python that the program is written in."""

import ast
import builtins
import re
import unittest
from pathlib import Path

PACKAGE = Path(__file__).resolve().parent.parent / "shoeworks"

NODES = set("""
Module FunctionDef ClassDef arguments arg Return Assign AugAssign For While If Raise Try ExceptHandler ImportFrom alias
Expr Pass Break Continue BoolOp BinOp UnaryOp Lambda IfExp Dict ListComp comprehension Compare Call Constant
JoinedStr FormattedValue Attribute Subscript Name List Tuple Slice Load Store keyword
And Or Add Sub Mult Mod Pow LShift RShift BitOr BitXor BitAnd FloorDiv Invert Not UAdd USub
Eq NotEq Lt LtE Gt GtE Is IsNot In NotIn
""".split())
OWN_NAMES = set("""
len range enumerate zip min max sum abs sorted reversed int str bool list tuple dict set frozenset isinstance ord repr
any all divmod Exception ValueError TypeError KeyError IndexError LookupError ZeroDivisionError ArithmeticError
OverflowError RuntimeError NotImplementedError AttributeError StopIteration
""".split())
OWN_METHODS = set("""
append clear copy count endswith extend find get index insert isalnum isalpha isdigit islower isspace isupper items join
keys ljust lower lstrip partition pop remove replace reverse rfind rjust rpartition rsplit rstrip setdefault split
splitlines startswith strip update upper values zfill bit_length
""".split())
WORDS = r"\b(type|typing|typing_extensions|enum|Enum|IntEnum|StrEnum|Flag|IntFlag|Generic|Protocol|ABC|ABCMeta" \
    r"|namedtuple|NamedTuple|TypedDict|TYPE_CHECKING|abstractmethod)\b|dataclass|overload|contextmanager"
UNUSED = set("""
register mro elements open input version_info with_traceback add_note attrgetter breakpoint builtins compile copyright
credits delattr dir eval exec exit gc getattr globals hasattr help id importlib license locals methodcaller os quit
setattr super type vars sys format format_map
""".split())
PYTHONS_OWN = set([name for name in dir(builtins) if not name.startswith("_")])
METHODS_WITH_UNDERSCORES = ("__init__", "__eq__", "__repr__", "__str__", "__len__")


def files():
    return sorted(PACKAGE.glob("*.py"))


def names_of(node):
    for attribute in ("name", "id", "attr", "arg"):
        if isinstance(getattr(node, attribute, None), str) and not isinstance(node, ast.alias):
            yield getattr(node, attribute)


class Language(unittest.TestCase):
    def each_node(self):
        for path in files():
            for node in ast.walk(ast.parse(path.read_text("ascii"))):
                yield node, f"{path.name}:{getattr(node, 'lineno', 0)}: {type(node).__name__}"

    def test_files(self):
        for path in PACKAGE.rglob("*"):
            if "__pycache__" in path.parts:
                continue
            self.assertRegex(path.name, r"^([a-z][a-z0-9_]*|__init__|__main__)\.py$")
            self.assertNotIn(path.stem, PYTHONS_OWN)
        self.assertTrue((PACKAGE / "__init__.py").exists())

    def test_signs_words_and_sizes(self):
        for path in files():
            text = path.read_bytes().decode("ascii")
            self.assertRegex(text, r"\A[ -~\n]*\Z", path.name)
            self.assertIsNone(re.search(WORDS, text), path.name)
            self.assertLessEqual(len(text.splitlines()), 400, path.name)
            self.assertLessEqual(max([len(line) for line in text.splitlines()]), 120, path.name)

    def test_nodes(self):
        for node, where in self.each_node():
            self.assertIn(type(node).__name__, NODES, where)
            if isinstance(node, (ast.For, ast.While)):
                self.assertEqual(node.orelse, [], where)
            if isinstance(node, ast.Assign):
                self.assertEqual(len(node.targets), 1, where)
                self.assertNotIsInstance(node.targets[0], ast.Tuple, where)
            if isinstance(node, ast.ListComp):
                self.assertEqual(len(node.generators), 1, where)
                self.assertLessEqual(len(node.generators[0].ifs), 1, where)
            if isinstance(node, ast.Constant):
                self.assertIn(type(node.value), (int, str, bool, type(None)), where)

    def test_functions(self):
        for node, where in self.each_node():
            if isinstance(node, ast.FunctionDef):
                self.assertLessEqual(node.end_lineno - node.lineno + 1, 40, where)
                self.assertEqual(node.decorator_list, [], where)
                self.assertIsNone(ast.get_docstring(node), where)
            if isinstance(node, ast.arguments):
                self.assertEqual((node.vararg, node.kwarg, node.kwonlyargs, node.posonlyargs), (None, None, [], []))
            if isinstance(node, ast.Expr):
                top_text = isinstance(node.value, ast.Constant) and node.lineno == 1
                self.assertTrue(top_text or isinstance(node.value, ast.Call), where)

    def test_names(self):
        for node, where in self.each_node():
            for name in names_of(node):
                if name in METHODS_WITH_UNDERSCORES:
                    continue
                self.assertRegex(name, r"^[A-Za-z][A-Za-z0-9_]*$", where)
                self.assertNotIn(name, UNUSED, where)
            given = isinstance(node, ast.arg) or isinstance(node, ast.Name) and isinstance(node.ctx, ast.Store)
            for name in names_of(node):
                if given or isinstance(node, (ast.FunctionDef, ast.ClassDef)):
                    self.assertNotIn(name, PYTHONS_OWN, where)
                elif isinstance(node, ast.Name) and name in PYTHONS_OWN:
                    self.assertIn(name, OWN_NAMES, where)

    def test_values_of_objects(self):
        taken = set(dir("") + dir(0) + dir([]) + dir({}) + dir(set()) + dir(b"")) - set(METHODS_WITH_UNDERSCORES)
        methods, values = set(), set()
        for node, where in self.each_node():
            if isinstance(node, ast.ClassDef):
                methods.update([part.name for part in node.body])
            if isinstance(node, ast.Attribute) and isinstance(node.ctx, ast.Store):
                values.add(node.attr)
        self.assertEqual(methods & values, set())
        self.assertEqual((methods | values) & taken, set())
        for node, where in self.each_node():
            if isinstance(node, ast.Attribute):
                self.assertIn(node.attr, methods | values | OWN_METHODS, where)

    def test_imports(self):
        drawn = {}
        for path in files():
            tree = ast.parse(path.read_text("ascii"))
            drawn[path.stem] = set()
            for node in ast.walk(tree):
                if isinstance(node, ast.ImportFrom):
                    self.assertIn(node, tree.body)
                    self.assertEqual((node.level, node.module.split(".")[0]), (0, "shoeworks"), path.name)
                    source = PACKAGE / (node.module.split(".")[1] + ".py")
                    defined = set()
                    for part in ast.parse(source.read_text("ascii")).body:
                        defined.update([target.id for target in getattr(part, "targets", [])])
                        defined.update(names_of(part))
                    self.assertLessEqual({alias.name for alias in node.names}, defined, path.name)
                    drawn[path.stem].add(source.stem)
        self.assertEqual(drawn["__init__"], set())
        while drawn:
            loose = [stem for stem in drawn if not drawn[stem] & set(drawn)]
            self.assertNotEqual(loose, [], "files draw from one another")
            for stem in loose:
                drawn.pop(stem)

    def test_names_are_bound_once_and_not_hidden(self):
        for path in files():
            tree = ast.parse(path.read_text("ascii"))
            top = []
            for part in tree.body:
                top.extend([target.id for target in getattr(part, "targets", [])])
                top.extend(names_of(part))
                if isinstance(part, ast.ImportFrom):
                    top.extend([alias.name for alias in part.names])
            self.assertEqual(len(top), len(set(top)), path.name)
            for part in tree.body:
                if isinstance(part, (ast.FunctionDef, ast.ClassDef)):
                    for node in ast.walk(part):
                        if isinstance(node, ast.arg) or isinstance(getattr(node, "ctx", None), ast.Store):
                            for name in names_of(node):
                                if not isinstance(node, ast.Attribute):
                                    self.assertNotIn(name, top, path.name)


if __name__ == "__main__":
    unittest.main()
