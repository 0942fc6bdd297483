"""The package keeps to the rules of ../shared/LANGUAGE.md that can be seen in its files one by one.

Not every rule is looked for here; those that are bear their numbers.
"""

import ast
import builtins
import pathlib
import re
import unittest

PACKAGE = pathlib.Path(__file__).resolve().parent.parent / "sluiceway"
FILES = sorted([path for path in PACKAGE.rglob("*") if path.is_file() and path.parent.name != "__pycache__"])

NODES = """
    Module FunctionDef ClassDef arguments arg Return Assign AugAssign For While If Raise Try ExceptHandler Expr Pass
    Break Continue ImportFrom alias BoolOp And Or BinOp Add Sub Mult FloorDiv Mod Pow BitAnd BitOr BitXor LShift RShift
    UnaryOp Not USub UAdd Invert Compare Eq NotEq Lt LtE Gt GtE Is IsNot In NotIn IfExp Call keyword Attribute
    Subscript Slice Name Load Store Constant List Tuple Dict Set ListComp comprehension Lambda JoinedStr FormattedValue
""".split()
OWN_NAMES = """
    len range enumerate zip min max sum abs sorted reversed int str bool list tuple dict set frozenset isinstance ord
    repr any all divmod Exception ValueError TypeError KeyError IndexError LookupError ZeroDivisionError
    ArithmeticError OverflowError RuntimeError NotImplementedError AttributeError StopIteration
""".split()
METHODS = """
    append clear copy count endswith extend find get index insert isalnum isalpha isdigit islower isspace isupper items
    join keys ljust lower lstrip partition pop remove replace reverse rfind rjust rpartition rsplit rstrip setdefault
    split splitlines startswith strip update upper values zfill bit_length
""".split()
TWO_UNDERSCORES = "__init__ __eq__ __repr__ __str__ __len__ __all__ __version__".split()
WORDS = re.compile(
    r"\b(type|typing|typing_extensions|enum|Enum|IntEnum|StrEnum|Flag|IntFlag|Generic|Protocol|ABC|ABCMeta|namedtuple"
    r"|NamedTuple|TypedDict|TYPE_CHECKING|abstractmethod)\b|dataclass|overload|contextmanager"
)
# Where what is walked at once may stand as the first thing, and what is walked so.
WALKERS = "list tuple dict sorted sum any all enumerate zip min max".split()
WALKED = "zip enumerate reversed range items keys values".split()
KEYWORDS = {
    "sorted": ("key", "reverse"), "min": ("key", "default"), "max": ("key", "default"), "sum": ("start",),
    "enumerate": ("start",), "zip": ("strict",),
}
NOWHERE = "register mro elements open input version_info with_traceback add_note format format_map".split()


def tree_of(path):
    return ast.parse(path.read_text())


def nodes_of(path, *kinds):
    return [node for node in ast.walk(tree_of(path)) if isinstance(node, kinds)]


def bound_names(path):
    """Every name that a file binds, but those that it imports."""
    names = [node.id for node in nodes_of(path, ast.Name) if isinstance(node.ctx, ast.Store)]
    names += [node.arg for node in nodes_of(path, ast.arg)]
    return names + [node.name for node in nodes_of(path, ast.FunctionDef, ast.ClassDef)]


def top_names(path):
    names = []
    for node in tree_of(path).body:
        if isinstance(node, ast.Assign):
            names += [target.id for target in node.targets]
        elif isinstance(node, (ast.FunctionDef, ast.ClassDef)):
            names.append(node.name)
    return names


def methods_of(path):
    """The names of all methods of a file's classes."""
    bodies = [node for kind in nodes_of(path, ast.ClassDef) for node in kind.body]
    return [node.name for node in bodies if isinstance(node, ast.FunctionDef)]


def values_of(path):
    """The names of all values that a file gives to objects."""
    return [node.attr for node in nodes_of(path, ast.Attribute) if isinstance(node.ctx, ast.Store)]


def called_name(node):
    """The name by which a node calls, None where it is no call."""
    if not isinstance(node, ast.Call):
        return None
    return node.func.attr if isinstance(node.func, ast.Attribute) else getattr(node.func, "id", None)


def walked_on_the_spot(path):
    """The calls that stand where L23 lets what is walked at once stand."""
    spots = [node.iter for node in nodes_of(path, ast.For, ast.comprehension)]
    for node in nodes_of(path, ast.Call):
        of_text = isinstance(node.func, ast.Attribute) and isinstance(node.func.value, ast.Constant)
        if node.args and (called_name(node) in WALKERS or of_text and called_name(node) == "join"):
            spots.append(node.args[0])
    return [(spot.lineno, spot.col_offset) for spot in spots]


def own_imports(path):
    return [node.module for node in nodes_of(path, ast.ImportFrom)]


class Language(unittest.TestCase):
    def assert_none(self, found, path):
        self.assertEqual(list(found), [], path.name)

    def test_files_l1_l14(self):
        self.assertTrue((PACKAGE / "__init__.py").is_file())
        for path in FILES:
            self.assertEqual(path.parent, PACKAGE)
            self.assertRegex(path.name, r"\A([a-z][a-z0-9_]*|__init__|__main__)\.py\Z")

    def test_signs_l14(self):
        for path in FILES:
            self.assert_none(sorted(set(re.findall(rb"[^ -~\n]", path.read_bytes()))), path)

    def test_sizes_l10(self):
        for path in FILES:
            lines = path.read_text().split("\n")
            self.assertLessEqual(len(lines), 400, path.name)
            self.assertLessEqual(max([len(line) for line in lines]), 120, path.name)
            for node in nodes_of(path, ast.FunctionDef):
                self.assertLessEqual(node.end_lineno - node.lineno + 1, 40, node.name)

    def test_words_l17_l27(self):
        for path in FILES:
            self.assertIsNone(WORDS.search(path.read_text()), path.name)
            texts = [node.value for node in nodes_of(path, ast.Constant) if isinstance(node.value, str)]
            self.assert_none([text for text in texts if "%" in text], path)

    def test_forms_l4_l5_l6_l7(self):
        for path in FILES:
            kinds = {type(node).__name__ for node in ast.walk(tree_of(path))}
            self.assert_none(sorted(kinds - set(NODES)), path)
            defs = nodes_of(path, ast.FunctionDef, ast.ClassDef)
            self.assert_none([node.name for node in defs if node.decorator_list], path)
            self.assert_none([node for node in nodes_of(path, ast.Assign) if len(node.targets) > 1], path)
            self.assert_none([node for node in nodes_of(path, ast.For, ast.While) if node.orelse], path)
            self.assert_none([node for node in nodes_of(path, ast.Try) if node.finalbody], path)
            values = [node.value for node in nodes_of(path, ast.Constant)]
            self.assert_none([value for value in values if isinstance(value, (float, complex, bytes))], path)

    def test_tops_l3_l15(self):
        allowed = (ast.Expr, ast.ImportFrom, ast.FunctionDef, ast.ClassDef, ast.Assign)
        for path in FILES:
            body = tree_of(path).body
            self.assert_none([node for node in body if not isinstance(node, allowed)], path)
            self.assert_none([node for node in body[1:] if isinstance(node, ast.Expr)], path)
            self.assertEqual(len(top_names(path)), len(set(top_names(path))))

    def test_imports_l2_l16(self):
        for path in FILES:
            for node in nodes_of(path, ast.ImportFrom):
                package, dot, name = node.module.partition(".")
                self.assertEqual((node.level, package), (0, "sluiceway"))
                self.assert_none({alias.name for alias in node.names} - set(top_names(PACKAGE / f"{name}.py")), path)
                self.assert_none([alias.asname for alias in node.names if alias.asname], path)

    def test_no_two_files_draw_from_one_another_l16(self):
        draws = {f"sluiceway.{path.stem}": own_imports(path) for path in FILES}
        while draws:
            free = [name for name in draws if not set(draws[name]) & set(draws)]
            self.assertNotEqual(free, [], f"these draw from one another: {sorted(draws)}")
            draws = {name: draws[name] for name in draws if name not in free}

    def test_names_l8_l12_l15_l17(self):
        for path in FILES:
            for name in bound_names(path):
                self.assertTrue(re.fullmatch(r"[A-Za-z][A-Za-z0-9_]*", name) or name in TWO_UNDERSCORES, name)
                self.assertFalse(hasattr(builtins, name) and name not in TWO_UNDERSCORES, name)
                self.assertNotIn(name, NOWHERE)
            for node in nodes_of(path, ast.Name):
                self.assertTrue(not hasattr(builtins, node.id) or node.id in OWN_NAMES, node.id)

    def test_attributes_l17_l25(self):
        own = set(METHODS + TWO_UNDERSCORES)
        for path in FILES:
            own |= {node.name for node in nodes_of(path, ast.FunctionDef)}
        for path in FILES:
            called = [node.func.attr for node in nodes_of(path, ast.Call) if isinstance(node.func, ast.Attribute)]
            self.assert_none(sorted(set(called) - own), path)
            self.assert_none([node.attr for node in nodes_of(path, ast.Attribute) if node.attr in NOWHERE], path)

    def test_parameters_and_annotations_l4_l21(self):
        for path in FILES:
            for node in nodes_of(path, ast.arguments):
                self.assertEqual((node.vararg, node.kwarg, node.kwonlyargs, node.posonlyargs), (None, None, [], []))
            self.assert_none([node.arg for node in nodes_of(path, ast.arg) if node.annotation], path)
            self.assert_none([node.name for node in nodes_of(path, ast.FunctionDef) if node.returns], path)

    def test_comprehensions_and_f_strings_l7(self):
        for path in FILES:
            for node in nodes_of(path, ast.ListComp):
                self.assertEqual((len(node.generators), len(node.generators[0].ifs) <= 1), (1, True), path.name)
            for node in nodes_of(path, ast.FormattedValue):
                self.assertIsInstance(node.value, ast.Name, path.name)
                self.assertIsNone(node.format_spec, path.name)

    def test_no_local_is_called_like_a_class_or_an_import_l15(self):
        for path in FILES:
            taken = [node.name for node in nodes_of(path, ast.ClassDef)]
            taken += [alias.name for node in nodes_of(path, ast.ImportFrom) for alias in node.names]
            names = [node.id for node in nodes_of(path, ast.Name) if isinstance(node.ctx, ast.Store)]
            names += [node.arg for node in nodes_of(path, ast.arg)]
            self.assert_none(sorted(set(names) & set(taken)), path)

    def test_top_lists_and_dicts_hold_none_l15(self):
        for path in FILES:
            for node in tree_of(path).body:
                if isinstance(node, ast.Assign):
                    held = [part for part in ast.walk(node.value) if isinstance(part, (ast.List, ast.Dict))]
                    self.assertLessEqual(len(held), 1, path.name)

    def test_no_method_is_a_value_in_the_whole_package_l18(self):
        methods = [name for path in FILES for name in methods_of(path)]
        values = [name for path in FILES for name in values_of(path)]
        self.assertEqual(sorted(set(methods) & set(values)), [])

    def test_no_method_stands_twice_l18(self):
        for path in FILES:
            for kind in nodes_of(path, ast.ClassDef):
                names = [node.name for node in kind.body if isinstance(node, ast.FunctionDef)]
                self.assertEqual(len(names), len(set(names)), kind.name)

    def test_methods_and_values_are_not_pythons_own_l26(self):
        own = [name for kind in (str, int, list, tuple, dict, set, bytes, ValueError) for name in dir(kind)]
        for path in FILES:
            names = [name for name in methods_of(path) + values_of(path) if name not in TWO_UNDERSCORES]
            self.assert_none(sorted(set(names) & set(own)), path)

    def test_handlers_l19(self):
        for path in FILES:
            for node in nodes_of(path, ast.ExceptHandler):
                self.assertIsInstance(node.type, ast.Name, path.name)
                self.assertNotIn(node.type.id, ("Exception", "TypeError"), path.name)

    def test_keywords_l22(self):
        for path in FILES:
            for node in nodes_of(path, ast.Call):
                if called_name(node) in OWN_NAMES + METHODS:
                    allowed = KEYWORDS.get(called_name(node), ())
                    self.assert_none([keyword.arg for keyword in node.keywords if keyword.arg not in allowed], path)

    def test_walked_at_once_l23(self):
        for path in FILES:
            spots = walked_on_the_spot(path)
            calls = [node for node in nodes_of(path, ast.Call) if called_name(node) in WALKED]
            self.assert_none([node.lineno for node in calls if (node.lineno, node.col_offset) not in spots], path)

    def test_is_stands_beside_none_true_false_l20(self):
        for path in FILES:
            for node in nodes_of(path, ast.Compare):
                if any([isinstance(operator, (ast.Is, ast.IsNot)) for operator in node.ops]):
                    sides = [side.value for side in [node.left] + node.comparators if isinstance(side, ast.Constant)]
                    self.assertTrue([side for side in sides if side is None or isinstance(side, bool)])


if __name__ == "__main__":
    unittest.main()
