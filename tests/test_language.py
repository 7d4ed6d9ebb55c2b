"""The package keeps to the small part of the language: what of its rules can be seen in the text."""

import ast
import builtins
import pathlib
import re
import unittest

PACKAGE = pathlib.Path(__file__).resolve().parent.parent / "matchclauses"
FILES = sorted(PACKAGE.rglob("*.py"))

OWN_NAMES = set("""
len range enumerate zip min max sum abs sorted reversed int str bool list tuple dict set frozenset isinstance ord
repr any all divmod Exception ValueError TypeError KeyError IndexError LookupError ZeroDivisionError ArithmeticError
OverflowError RuntimeError NotImplementedError AttributeError StopIteration
""".split())

METHODS = set("""
append clear copy count endswith extend find get index insert isalnum isalpha isdigit islower isspace isupper items
join keys ljust lower lstrip partition pop remove replace reverse rfind rjust rpartition rsplit rstrip setdefault split
splitlines startswith strip update upper values zfill bit_length
""".split())

TWO_UNDERSCORES = {"__init__", "__eq__", "__repr__", "__str__", "__len__"}

WORDS = re.compile(
    r"\b(type|typing|typing_extensions|enum|Enum|IntEnum|StrEnum|Flag|IntFlag|Generic|Protocol|ABC|ABCMeta|namedtuple"
    r"|NamedTuple|TypedDict|TYPE_CHECKING|abstractmethod)\b|dataclass|overload|contextmanager"
)

NOT_AS_NAMES = set("""
register mro elements open input version_info with_traceback add_note attrgetter breakpoint builtins compile copyright
credits delattr dir eval exec exit gc getattr globals hasattr help id importlib license locals methodcaller os quit
setattr super sys vars format format_map
""".split())

# What the package's trees may be made of.
NODES = (
    ast.Module, ast.FunctionDef, ast.ClassDef, ast.ImportFrom, ast.alias, ast.arguments, ast.arg,
    ast.Assign, ast.AugAssign, ast.If, ast.While, ast.For, ast.Return, ast.Break, ast.Continue, ast.Pass, ast.Raise,
    ast.Try, ast.ExceptHandler, ast.Expr, ast.Constant, ast.Name, ast.Attribute, ast.Subscript, ast.Slice, ast.Call,
    ast.keyword, ast.List, ast.Tuple, ast.Dict, ast.ListComp, ast.comprehension, ast.BinOp, ast.UnaryOp, ast.BoolOp,
    ast.Compare, ast.IfExp, ast.Lambda, ast.JoinedStr, ast.FormattedValue, ast.expr_context, ast.boolop, ast.operator,
    ast.unaryop, ast.cmpop,
)


def walked(path):
    return list(ast.walk(ast.parse(path.read_text())))


def own_names(tree):
    """The names that this file gives: of functions, classes, parameters, locals and values."""
    names = []
    for node in tree:
        if isinstance(node, (ast.FunctionDef, ast.ClassDef)):
            names.append(node.name)
        elif isinstance(node, ast.arg):
            names.append(node.arg)
        elif isinstance(node, (ast.Name, ast.Attribute)) and isinstance(node.ctx, ast.Store):
            names.append(node.id if isinstance(node, ast.Name) else node.attr)
    return names


class Language(unittest.TestCase):
    def every(self, *kinds):
        """Each node of these kinds in the package, with the place where it stands."""
        for path in FILES:
            for node in walked(path):
                if isinstance(node, kinds):
                    yield node, f"{path.name}:{getattr(node, 'lineno', 0)}"

    def test_files(self):
        self.assertIn(PACKAGE / "desk.py", FILES)
        self.assertIn(PACKAGE / "__init__.py", FILES)
        for path in PACKAGE.rglob("*"):
            if "__pycache__" not in path.parts:
                self.assertRegex(path.name, r"^(__init__|[a-z][a-z0-9_]*)\.py$")
                self.assertNotIn(path.stem, set(dir(builtins)) | {"test", "tests", "testing", "site", "conftest"})

    def test_signs_words_and_sizes(self):
        for path in FILES:
            text = path.read_text()
            rows = text.split("\n")
            self.assertRegex(text, r"\A[ -~\n]*\Z", path.name)
            self.assertLessEqual(len(rows), 400, path.name)
            for place, row in enumerate(rows, start=1):
                self.assertLessEqual(len(row), 120, f"{path.name}:{place}")
                self.assertIsNone(WORDS.search(row), f"{path.name}:{place}")
        for node, place in self.every(ast.FunctionDef):
            self.assertLessEqual(node.end_lineno - node.lineno + 1, 40, place)

    def test_nothing_but_the_allowed_forms(self):
        for node, place in self.every(ast.AST):
            self.assertIsInstance(node, NODES, place)
            self.assertNotIsInstance(node, (ast.Div, ast.MatMult), place)
        for node, place in self.every(ast.For, ast.While):
            self.assertEqual(node.orelse, [], place)
        for node, place in self.every(ast.Assign):
            self.assertEqual(len(node.targets), 1, place)
        for node, place in self.every(ast.Constant):
            self.assertIn(type(node.value), (int, str, bool, type(None)), place)
        for node, place in self.every(ast.ListComp):
            self.assertEqual(len(node.generators), 1, place)
            self.assertLessEqual(len(node.generators[0].ifs), 1, place)
        for node, place in self.every(ast.Compare):
            if any(isinstance(operator, (ast.Is, ast.IsNot)) for operator in node.ops):
                self.assertIsInstance(node.comparators[0], ast.Constant, place)

    def test_texts_by_themselves_stand_at_a_files_top_alone(self):
        for node, place in self.every(ast.FunctionDef, ast.ClassDef):
            self.assertIsNone(ast.get_docstring(node), place)
        for path in FILES:
            self.assertIsNotNone(ast.get_docstring(ast.parse(path.read_text())), path.name)

    def test_the_top_of_a_file(self):
        for path in FILES:
            for node in ast.parse(path.read_text()).body[1:]:
                self.assertIsInstance(node, (ast.ImportFrom, ast.FunctionDef, ast.ClassDef, ast.Assign), path.name)

    def test_functions_and_classes(self):
        for node, place in self.every(ast.arguments):
            self.assertIsNone(node.vararg, place)
            self.assertIsNone(node.kwarg, place)
            self.assertEqual(node.kwonlyargs + node.posonlyargs, [], place)
        for node, place in self.every(ast.FunctionDef, ast.ClassDef):
            self.assertEqual(node.decorator_list, [], place)
        for node, place in self.every(ast.ClassDef):
            self.assertLessEqual(len(node.bases), 1, place)
            for part in node.body:
                self.assertIsInstance(part, (ast.FunctionDef, ast.Pass), place)

    def test_imports(self):
        given = {path.stem: ast.parse(path.read_text()).body for path in FILES}
        drawn = {}
        for path in FILES:
            rows = [node for node in walked(path) if isinstance(node, ast.ImportFrom)]
            drawn[path.stem] = [row.module.split(".")[-1] for row in rows]
            for row in rows:
                self.assertRegex(row.module, r"^matchclauses\.[a-z]+$")
                defined = own_names(given[row.module.split(".")[-1]])
                defined += [node.targets[0].id for node in given[row.module.split(".")[-1]]
                            if isinstance(node, ast.Assign)]
                for name in row.names:
                    self.assertIn(name.name, defined)
                    self.assertIsNone(name.asname)
        left = dict(drawn)
        while left:
            done = [name for name, sources in left.items() if not any(source in left for source in sources)]
            self.assertNotEqual(done, [], "files draw from one another")
            for name in done:
                left.pop(name)

    def test_names(self):
        for path in FILES:
            tree = walked(path)
            names = own_names(tree)
            for name in names:
                if name not in TWO_UNDERSCORES:
                    self.assertRegex(name, r"^[A-Za-z][A-Za-z0-9_]*$", path.name)
                self.assertNotIn(name, set(dir(builtins)) | NOT_AS_NAMES, path.name)
            imported = [name.name for node in tree if isinstance(node, ast.ImportFrom) for name in node.names]
            for node in tree:
                if isinstance(node, ast.Name):
                    self.assertIn(node.id, OWN_NAMES | set(names) | set(imported), f"{path.name}:{node.lineno}")
                    self.assertFalse(isinstance(node.ctx, ast.Store) and node.id in imported, node.id)
                elif isinstance(node, ast.arg):
                    self.assertNotIn(node.arg, imported)

    def test_methods_and_values(self):
        methods = set()
        values = set()
        for node, place in self.every(ast.ClassDef):
            methods.update(part.name for part in node.body if isinstance(part, ast.FunctionDef))
        for node, place in self.every(ast.Attribute):
            if isinstance(node.ctx, ast.Store):
                values.add(node.attr)
        self.assertEqual(methods & values, set())
        for node, place in self.every(ast.Attribute):
            self.assertIn(node.attr, methods | values | METHODS, place)
        for kind in (str, int, list, tuple, dict, set, bytes):
            self.assertEqual((methods - TWO_UNDERSCORES | values) & set(dir(kind)), set())


if __name__ == "__main__":
    unittest.main()
