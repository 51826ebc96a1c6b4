"""That the package's files keep to the part of Python that they are to be written in, as far as it's easily seen."""

import ast
import builtins
import pathlib
import re
import unittest

PACKAGE = pathlib.Path(__file__).resolve().parent.parent / "yardlocks"
FILES = sorted(PACKAGE.rglob("*.py"))

STATEMENTS = (
    ast.FunctionDef, ast.ClassDef, ast.ImportFrom, ast.Assign, ast.AugAssign, ast.If, ast.While, ast.For,
    ast.Return, ast.Break, ast.Continue, ast.Pass, ast.Raise, ast.Try, ast.Expr,
)
EXPRESSIONS = (
    ast.Constant, ast.Name, ast.Attribute, ast.Subscript, ast.Slice, ast.Call, ast.List, ast.Tuple, ast.Dict,
    ast.BinOp, ast.UnaryOp, ast.BoolOp, ast.Compare, ast.IfExp, ast.ListComp, ast.JoinedStr, ast.FormattedValue,
    ast.Lambda,
)
OWN_NAMES = set(
    "len range enumerate zip min max sum abs sorted reversed int str bool list tuple dict set frozenset isinstance "
    "ord repr any all divmod Exception ValueError TypeError KeyError IndexError LookupError ZeroDivisionError "
    "ArithmeticError OverflowError RuntimeError NotImplementedError AttributeError StopIteration".split()
)
METHODS = set(
    "append clear copy count endswith extend find get index insert isalnum isalpha isdigit islower isspace isupper "
    "items join keys ljust lower lstrip partition pop remove replace reverse rfind rjust rpartition rsplit rstrip "
    "setdefault split splitlines startswith strip update upper values zfill bit_length".split()
)
WORDS = re.compile(
    r"\b(type|typing|typing_extensions|enum|Enum|IntEnum|StrEnum|Flag|IntFlag|Generic|Protocol|ABC|ABCMeta|"
    r"namedtuple|NamedTuple|TypedDict|TYPE_CHECKING|abstractmethod)\b|dataclass|overload|contextmanager"
)
NOT_USED = set(
    "register mro elements open input version_info with_traceback add_note attrgetter breakpoint builtins compile "
    "copyright credits delattr dir eval exec exit gc getattr globals hasattr help id importlib license locals "
    "methodcaller os quit setattr super type vars sys format format_map".split()
)


def nodes(kind):
    """All nodes of a kind in the package, each with where it stands."""
    found = []
    for file in FILES:
        for node in ast.walk(ast.parse(file.read_text())):
            if isinstance(node, kind):
                found.append((node, f"{file.name}:{getattr(node, 'lineno', 0)}"))
    return found


def bound_names():
    names = [(node.id, at) for node, at in nodes(ast.Name) if isinstance(node.ctx, ast.Store)]
    names += [(node.arg, at) for node, at in nodes(ast.arg)]
    names += [(node.name, at) for node, at in nodes((ast.FunctionDef, ast.ClassDef))]
    return names


class LanguageTest(unittest.TestCase):
    def test_the_package_holds_plain_files_alone(self):
        held = [path for path in PACKAGE.rglob("*") if "__pycache__" not in path.parts]
        self.assertEqual(sorted(held), FILES)
        self.assertIn(PACKAGE / "__init__.py", FILES)
        for file in FILES:
            self.assertRegex(file.name, r"^(__init__|[a-z][a-z0-9_]*)\.py$")

    def test_signs_and_sizes(self):
        for file in FILES:
            text = file.read_bytes().decode("ascii")
            self.assertRegex(text, r"^[ -~\n]*$")
            lines = text.split("\n")
            self.assertLessEqual(len(lines), 400, file.name)
            self.assertLessEqual(max(len(line) for line in lines), 120, file.name)
            self.assertIsNone(WORDS.search(text), file.name)
        for node, at in nodes(ast.FunctionDef):
            self.assertLessEqual(node.end_lineno - node.lineno + 1, 40, at)

    def test_only_its_own_files_are_drawn_from(self):
        for node, at in nodes(ast.ImportFrom):
            self.assertEqual((node.level, node.module.split(".")[0]), (0, "yardlocks"), at)
            defined = ast.parse((PACKAGE / (node.module.split(".")[1] + ".py")).read_text()).body
            names = {part.name for part in defined if isinstance(part, (ast.FunctionDef, ast.ClassDef))}
            names |= {part.targets[0].id for part in defined if isinstance(part, ast.Assign)}
            for alias in node.names:
                self.assertIn(alias.name, names, at)

    def test_no_two_files_draw_from_one_another(self):
        drawn = {file.stem: set() for file in FILES}
        for file in FILES:
            for node in ast.parse(file.read_text()).body:
                if isinstance(node, ast.ImportFrom):
                    drawn[file.stem].add(node.module.split(".")[1])
        while drawn:
            ready = [stem for stem, others in drawn.items() if not others & set(drawn)]
            self.assertTrue(ready, drawn)
            for stem in ready:
                drawn.pop(stem)

    def test_statements_and_expressions(self):
        for node, at in nodes(ast.stmt):
            self.assertIsInstance(node, STATEMENTS, at)
        for node, at in nodes(ast.expr):
            self.assertIsInstance(node, EXPRESSIONS, at)
        for node, at in nodes((ast.For, ast.While)):
            self.assertEqual(node.orelse, [], at)
        for node, at in nodes(ast.Assign):
            self.assertEqual(len(node.targets), 1, at)
        for node, at in nodes(ast.Constant):
            self.assertIn(type(node.value), (int, str, bool, type(None)), at)
        for node, at in nodes(ast.FunctionDef):
            self.assertEqual((node.decorator_list, node.args.vararg, node.args.kwarg), ([], None, None), at)
            self.assertEqual(node.args.kwonlyargs, [], at)
        self.assertEqual(nodes(ast.Div), [])
        for node, at in nodes(ast.Compare):
            if isinstance(node.ops[0], (ast.Is, ast.IsNot)):
                self.assertIn(ast.unparse(node.comparators[0]), ("None", "True", "False"), at)

    def test_names(self):
        imported = {alias.name for node, at in nodes(ast.ImportFrom) for alias in node.names}
        bound = {name for name, at in bound_names()}
        for name, at in bound_names():
            if name == "__init__":
                continue
            self.assertFalse(hasattr(builtins, name), (name, at))
            self.assertNotIn(name, NOT_USED, at)
            self.assertRegex(name, r"^[A-Za-z][A-Za-z0-9_]*$", at)
        for node, at in nodes(ast.Name):
            self.assertIn(node.id, imported | bound | OWN_NAMES | {"True", "False", "None"}, at)

    def test_methods(self):
        values = {node.attr for node, at in nodes(ast.Attribute) if isinstance(node.ctx, ast.Store)}
        defined = {name for name, at in bound_names()}
        for name in values:
            for kind in (str, int, list, dict, set, bytes):
                self.assertFalse(hasattr(kind, name), name)
            self.assertNotIn(name, NOT_USED)
        for node, at in nodes(ast.Attribute):
            self.assertIn(node.attr, METHODS | values | defined, at)


if __name__ == "__main__":
    unittest.main()
