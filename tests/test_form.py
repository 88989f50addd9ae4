"""The form of the package's files: the part of Python that the program keeps to."""

import ast
import builtins
import inspect
import re
import unittest
from pathlib import Path

from tintroads import backs, curves, grids, inks, intents, links, nearest, profiles, shares, squares, texts

PACKAGE = Path(__file__).resolve().parent.parent / "tintroads"
FILES = sorted(PACKAGE.glob("*.py"))
ALLOWED_NAMES = set("""
    len range enumerate zip min max sum abs sorted reversed int str bool bytes list tuple dict set frozenset
    isinstance ord repr any all divmod Exception ValueError TypeError KeyError IndexError LookupError
    ZeroDivisionError ArithmeticError OverflowError RuntimeError NotImplementedError AttributeError StopIteration
""".split())
ALLOWED_METHODS = set("""
    append clear copy count endswith extend find get index insert isalnum isalpha isdigit islower isspace isupper
    items join keys ljust lower lstrip partition pop remove replace reverse rfind rjust rpartition rsplit rstrip
    setdefault split splitlines startswith strip update upper values zfill bit_length
""".split())
NOWHERE = re.compile(
    r"\b(type|typing|typing_extensions|enum|Enum|IntEnum|StrEnum|Flag|IntFlag|Generic|Protocol|ABC|ABCMeta"
    r"|namedtuple|NamedTuple|TypedDict|TYPE_CHECKING|abstractmethod)\b|dataclass|overload|contextmanager"
)
OUT = (
    ast.Import, ast.With, ast.Match, ast.Global, ast.Nonlocal, ast.Yield, ast.YieldFrom, ast.Await, ast.AsyncFor,
    ast.AsyncWith, ast.AsyncFunctionDef, ast.GeneratorExp, ast.NamedExpr, ast.Div, ast.MatMult,
)
SIGNATURES = {
    shares.share: "(top, below=1)", shares.added: "(one, other)", shares.multiplied: "(one, other)",
    shares.floor_of: "(one)", shares.nearest_whole: "(one)",
    curves.Curve: "(points)", curves.Curve.value: "(self, place)", curves.Curve.back: "(self, value)",
    curves.Curve.is_rising: "(self)", curves.Curve.steepest: "(self)", curves.Curve.last: "(self)",
    curves.Curve.ends: "(self)", curves.JoinedCurve: "(curve, other)", curves.JoinedCurve.value: "(self, place)",
    curves.JoinedCurve.corners: "(self)",
    squares.volume: "(square)", squares.led: "(square, colour)", squares.way_back: "(square)",
    squares.led_back: "(square, colour)", squares.together: "(square, other)",
    grids.Grid: "(knots, table)", grids.Grid.knot: "(self, place)", grids.Grid.size: "(self)",
    grids.Grid.worth: "(self, colour, *, way='four')", grids.Grid.widest: "(self)",
    grids.sampled: "(knots, rows)", grids.is_grey: "(colour)",
    backs.ways_back: "(grid, goal)", backs.is_reached: "(grid, goal)", backs.is_flat: "(grid)",
    nearest.far_apart: "(one, other, *, weights=(1, 1, 1))",
    nearest.nearest: "(grid, goal, *, levels=3, weights=(1, 1, 1))",
    nearest.shown_worth: "(grid, goal, *, levels=3, weights=(1, 1, 1))",
    intents.Ends: "(*, white, black=(0, 0, 0))", intents.led_worth: "(worth, intent, *, here, there)",
    intents.is_between: "(worth, ends)",
    profiles.SquareProfile: "(curves, square, *, ends)", profiles.SquareProfile.to_worth: "(self, colour)",
    profiles.SquareProfile.from_worth: "(self, worth)", profiles.SquareProfile.slopes: "(self)",
    profiles.GridProfile: "(curves, grid, *, ends)", profiles.GridProfile.to_worth: "(self, colour)",
    profiles.GridProfile.from_worth: "(self, worth)", profiles.GridProfile.slopes: "(self)",
    profiles.slope_sum: "(profile)",
    links.stepwise: "(profile, intent, colour, *, there)", links.linked: "(profile, intent, *, there, knots=4)",
    links.growth: "(profile, intent, *, there)", links.link_bound: "(profile, intent, *, there, knots=4)",
    inks.with_black: "(inks, *, part=100)", inks.without_black: "(inks)", inks.all_ink: "(inks)",
    inks.limited: "(inks, *, most=300)", inks.black_kept: "(inks, *, most=300)",
    texts.grid_text: "(grid)", texts.grid_read: "(text)", texts.curve_text: "(curve)", texts.curve_read: "(text)",
}


def trees():
    """Each file of the package with its tree."""
    return [(file.name, ast.parse(file.read_text(encoding="utf-8"))) for file in FILES]


def nodes(*kinds):
    """All nodes of these kinds in the package, with their places."""
    found = []
    for name, tree in trees():
        for node in ast.walk(tree):
            if isinstance(node, kinds):
                found.append((f"{name}:{getattr(node, 'lineno', 0)}", node))
    return found


class TestFiles(unittest.TestCase):
    def test_nothing_else_lies_in_the_package(self):
        others = [file.name for file in PACKAGE.iterdir() if file.suffix != ".py" and file.name != "__pycache__"]
        self.assertEqual(others, [])
        self.assertIn("__init__.py", [file.name for file in FILES])

    def test_signs_and_sizes(self):
        for file in FILES:
            text = file.read_bytes().decode("ascii")
            rows = text.split("\n")
            self.assertLessEqual(len(rows), 400, file.name)
            for at, row in enumerate(rows, start=1):
                self.assertLessEqual(len(row), 120, (file.name, at))
                self.assertTrue(all(" " <= sign <= "~" for sign in row), (file.name, at))
                self.assertIsNone(NOWHERE.search(row), (file.name, at))

    def test_functions_are_short(self):
        for place, node in nodes(ast.FunctionDef):
            self.assertLessEqual(node.end_lineno - node.lineno + 1, 40, place)


class TestLanguage(unittest.TestCase):
    def test_imports(self):
        for place, node in nodes(ast.ImportFrom):
            self.assertEqual(node.level, 0, place)
            self.assertTrue(node.module.startswith("tintroads."), place)
            self.assertNotIn("*", [drawn.name for drawn in node.names], place)

    def test_statements_that_are_out(self):
        self.assertEqual([place for place, node in nodes(*OUT)], [])
        for place, node in nodes(ast.Constant):
            self.assertNotIsInstance(node.value, (float, complex), place)
        for place, node in nodes(ast.For, ast.While):
            self.assertEqual(node.orelse, [], place)

    def test_names(self):
        for place, node in nodes(ast.Name):
            if hasattr(builtins, node.id):
                self.assertIn(node.id, ALLOWED_NAMES, place)
                self.assertIsInstance(node.ctx, ast.Load, place)
            self.assertFalse(node.id.startswith("_"), place)
        for place, node in nodes(ast.arg):
            self.assertFalse(hasattr(builtins, node.arg) or node.arg.startswith("_"), place)

    def test_no_local_is_called_like_an_import_or_a_class(self):
        for name, tree in trees():
            held = {drawn.name for row in tree.body if isinstance(row, ast.ImportFrom) for drawn in row.names}
            held |= {row.name for row in tree.body if isinstance(row, ast.ClassDef)}
            given = [node.id for node in ast.walk(tree) if isinstance(node, ast.Name) and isinstance(node.ctx, ast.Store)]
            given += [node.arg for node in ast.walk(tree) if isinstance(node, ast.arg)]
            self.assertEqual(held & set(given), set(), name)

    def test_functions_and_classes_are_plain(self):
        for place, node in nodes(ast.FunctionDef, ast.ClassDef):
            self.assertEqual(node.decorator_list, [], place)
        for place, node in nodes(ast.FunctionDef):
            self.assertTrue(node.args.vararg is None and node.args.kwarg is None and not node.args.posonlyargs, place)
        for place, node in nodes(ast.ClassDef):
            self.assertLessEqual(len(node.bases), 1, place)

    def test_methods_and_values(self):
        methods = {row.name for place, node in nodes(ast.ClassDef) for row in node.body
                   if isinstance(row, ast.FunctionDef)}
        kept = {node.attr for place, node in nodes(ast.Attribute) if isinstance(node.ctx, ast.Store)}
        self.assertEqual(methods & kept, set())
        for name, tree in trees():
            called = [node.func for node in ast.walk(tree) if isinstance(node, ast.Call)]
            for node in ast.walk(tree):
                if isinstance(node, ast.Attribute):
                    allowed = methods | ALLOWED_METHODS if node in called else kept
                    self.assertIn(node.attr, allowed, (name, node.lineno))


class TestInterface(unittest.TestCase):
    def test_names_arguments_and_defaults(self):
        for deed, wanted in SIGNATURES.items():
            self.assertEqual(str(inspect.signature(deed)), wanted, deed)


if __name__ == "__main__":
    unittest.main()
