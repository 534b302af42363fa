"""The package keeps to its small part of Python, as far as a look at the files tells."""

import ast
import pathlib
import re
import unittest

PACKAGE = pathlib.Path(__file__).resolve().parent.parent / "allscannings"
FILES = sorted(PACKAGE.glob("*.py"))

NODES = (
    ast.Module, ast.Expr, ast.Constant, ast.ImportFrom, ast.alias, ast.FunctionDef, ast.ClassDef, ast.arguments,
    ast.arg, ast.Assign, ast.AugAssign, ast.If, ast.While, ast.For, ast.Return, ast.Break, ast.Continue, ast.Pass,
    ast.Raise, ast.Try, ast.ExceptHandler, ast.Name, ast.Attribute, ast.Subscript, ast.Slice, ast.List, ast.Tuple,
    ast.Dict, ast.BinOp, ast.UnaryOp, ast.BoolOp, ast.Compare, ast.IfExp, ast.Call, ast.ListComp, ast.comprehension,
    ast.keyword, ast.operator, ast.unaryop, ast.boolop, ast.cmpop, ast.expr_context, ast.Lambda, ast.JoinedStr,
    ast.FormattedValue)
NOT_NODES = (ast.Div, ast.MatMult)
OWN_NAMES = set(
    "len range enumerate zip min max sum abs sorted reversed int str bool list tuple dict set frozenset isinstance ord"
    " repr any all divmod Exception ValueError TypeError KeyError IndexError LookupError ZeroDivisionError"
    " ArithmeticError OverflowError RuntimeError NotImplementedError AttributeError StopIteration".split())
VALUE_METHODS = set(
    "append clear copy count endswith extend find get index insert isalnum isalpha isdigit islower isspace isupper"
    " items join keys ljust lower lstrip partition pop remove replace reverse rfind rjust rpartition rsplit rstrip"
    " setdefault split splitlines startswith strip update upper values zfill bit_length".split())
SPECIAL_METHODS = set("__init__ __eq__ __repr__ __str__ __len__".split())
NEVER_NAMES = set(
    "register mro elements open input version_info with_traceback add_note format format_map attrgetter breakpoint"
    " builtins compile copyright credits delattr dir eval exec exit gc getattr globals hasattr help id importlib"
    " license locals methodcaller os quit setattr super type vars sys hash next map filter iter print chr bytes object"
    " float property slice callable round pow hex oct bin ascii complex bytearray memoryview classmethod"
    " staticmethod issubclass".split())
NEVER_WORDS = re.compile(
    r"\b(type|typing|typing_extensions|enum|Enum|IntEnum|StrEnum|Flag|IntFlag|Generic|Protocol|ABC|ABCMeta|namedtuple"
    r"|NamedTuple|TypedDict|TYPE_CHECKING|abstractmethod)\b|dataclass|overload|contextmanager")


def bound_names(tree):
    """Every name that a file binds: defs, classes, parameters, locals."""
    names = []
    for node in ast.walk(tree):
        if isinstance(node, (ast.FunctionDef, ast.ClassDef)):
            names.append(node.name)
        elif isinstance(node, ast.arg):
            names.append(node.arg)
        elif isinstance(node, ast.Name) and isinstance(node.ctx, ast.Store):
            names.append(node.id)
        elif isinstance(node, ast.ExceptHandler) and node.name:
            names.append(node.name)
    return names


class LanguageTest(unittest.TestCase):
    def each_file(self):
        for path in FILES:
            text = path.read_text(encoding="utf-8")
            yield path, text, ast.parse(text)

    def each_node(self, kind):
        for path, text, tree in self.each_file():
            for node in ast.walk(tree):
                if isinstance(node, kind):
                    yield path, node

    def test_files(self):
        names = [path.name for path in PACKAGE.iterdir() if path.name != "__pycache__"]
        self.assertEqual(sorted(names), [path.name for path in FILES])
        self.assertIn("__init__.py", names)
        self.assertIn("formats.py", names)
        for name in names:
            self.assertRegex(name, r"^[a-z_][a-z0-9_]*\.py$")

    def test_signs_and_sizes(self):
        for path, text, tree in self.each_file():
            self.assertRegex(text, r"\A[ -~\n]*\Z", path.name)
            self.assertIsNone(NEVER_WORDS.search(text), path.name)
            lines = text.split("\n")
            self.assertLessEqual(len(lines), 399, path.name)
            self.assertLessEqual(max(len(line) for line in lines), 120, path.name)
            for node in ast.walk(tree):
                if isinstance(node, ast.FunctionDef):
                    self.assertLessEqual(node.end_lineno - node.lineno + 1, 40, node.name)

    def test_kinds_of_nodes(self):
        for path, node in self.each_node(ast.AST):
            place = (path.name, getattr(node, "lineno", 0), type(node).__name__)
            self.assertIsInstance(node, NODES, place)
            self.assertNotIsInstance(node, NOT_NODES, place)
            if isinstance(node, ast.Assign):
                self.assertEqual(len(node.targets), 1, place)
            if isinstance(node, (ast.For, ast.While)):
                self.assertEqual(node.orelse, [], place)
            if isinstance(node, ast.Try):
                self.assertEqual(node.finalbody, [], place)
            if isinstance(node, ast.ListComp):
                self.assertEqual(len(node.generators), 1, place)
                self.assertLessEqual(len(node.generators[0].ifs), 1, place)
            if isinstance(node, ast.Constant):
                self.assertIn(type(node.value), (int, str, bool, type(None)), place)
            if isinstance(node, (ast.FunctionDef, ast.ClassDef)):
                self.assertEqual(node.decorator_list, [], place)
            if isinstance(node, ast.arguments):
                self.assertFalse(node.vararg or node.kwarg or node.kwonlyargs or node.posonlyargs, place)
            if isinstance(node, ast.Compare) and any(isinstance(op, (ast.Is, ast.IsNot)) for op in node.ops):
                self.assertIsInstance(node.comparators[0], ast.Constant, place)

    def test_the_top_of_a_file(self):
        for path, text, tree in self.each_file():
            self.assertIsNotNone(ast.get_docstring(tree), path.name)
            bound = []
            for node in tree.body[1:]:
                self.assertIsInstance(node, (ast.ImportFrom, ast.FunctionDef, ast.ClassDef, ast.Assign), path.name)
                if isinstance(node, ast.ImportFrom):
                    bound += [alias.name for alias in node.names]
                elif isinstance(node, ast.Assign):
                    bound.append(node.targets[0].id)
                else:
                    bound.append(node.name)
            self.assertEqual(len(bound), len(set(bound)), path.name)
            inner = bound_names(tree)
            classes = [node.name for node in tree.body if isinstance(node, ast.ClassDef)]
            imported = [alias.name for node in tree.body if isinstance(node, ast.ImportFrom) for alias in node.names]
            for name in classes:
                self.assertEqual(inner.count(name), 1, path.name)
            for name in imported:
                self.assertNotIn(name, inner, path.name)

    def test_imports(self):
        drawn = {}
        for path, text, tree in self.each_file():
            drawn[path.stem] = []
            for node in ast.walk(tree):
                if isinstance(node, ast.ImportFrom):
                    self.assertEqual(node.level, 0)
                    package, stem = node.module.split(".")
                    self.assertEqual(package, "allscannings")
                    drawn[path.stem].append(stem)
                    source = ast.parse((PACKAGE / (stem + ".py")).read_text(encoding="utf-8"))
                    tops = [top.name for top in source.body if isinstance(top, (ast.FunctionDef, ast.ClassDef))]
                    tops += [top.targets[0].id for top in source.body if isinstance(top, ast.Assign)]
                    for alias in node.names:
                        self.assertIsNone(alias.asname)
                        self.assertIn(alias.name, tops)
        while drawn:
            free = [stem for stem in drawn if not any(other in drawn for other in drawn[stem])]
            self.assertTrue(free, "files draw from one another")
            for stem in free:
                del drawn[stem]

    def test_names(self):
        for path, text, tree in self.each_file():
            names = bound_names(tree)
            for name in names:
                if name not in SPECIAL_METHODS:
                    self.assertRegex(name, r"^[A-Za-z][A-Za-z0-9_]*$")
                    self.assertNotIn(name, NEVER_NAMES | OWN_NAMES, path.name)
            imported = [alias.name for node in tree.body if isinstance(node, ast.ImportFrom) for alias in node.names]
            for node in ast.walk(tree):
                if isinstance(node, ast.Name) and isinstance(node.ctx, ast.Load):
                    self.assertIn(node.id, set(names) | set(imported) | OWN_NAMES, path.name)

    def test_attributes(self):
        methods = {}
        values = {}
        for path, node in self.each_node(ast.ClassDef):
            for method in node.body[1:]:
                self.assertIsInstance(method, ast.FunctionDef)
                self.assertNotIn((node.name, method.name), methods)
                methods[(node.name, method.name)] = True
        for path, node in self.each_node(ast.Attribute):
            if isinstance(node.ctx, ast.Store):
                values[node.attr] = True
        own = {name for owner, name in methods}
        self.assertFalse(own & set(values))
        for path, node in self.each_node(ast.Attribute):
            self.assertIn(node.attr, own | set(values) | VALUE_METHODS | SPECIAL_METHODS)
            self.assertNotIn(node.attr, NEVER_NAMES)
        for name in (own | set(values)) - SPECIAL_METHODS:
            for kind in (str, int, list, dict, set, bytes, tuple):
                self.assertFalse(hasattr(kind, name), name)

    def test_errors_that_are_taken(self):
        for path, node in self.each_node(ast.ExceptHandler):
            self.assertIsInstance(node.type, ast.Name)
            self.assertNotIn(node.type.id, (
                "Exception TypeError ArithmeticError OverflowError RuntimeError NotImplementedError"
                " AttributeError").split())


if __name__ == "__main__":
    unittest.main()
