"""Some of the rules of ../shared/LANGUAGE.md: what a file is made of, its names, words and sizes. Not all of them."""

import ast
import builtins
import pathlib
import re
import unittest

PACKAGE = pathlib.Path(__file__).resolve().parent.parent / "lotjoin"
FILES = sorted(path for path in PACKAGE.rglob("*") if "__pycache__" not in path.parts)

NODES = set(
    "Module FunctionDef ClassDef arguments arg Return Assign AugAssign For While If Raise Try ExceptHandler ImportFrom"
    " alias Expr Pass Break Continue BoolOp And Or BinOp Add Sub Mult FloorDiv Mod Pow LShift RShift BitOr BitXor"
    " BitAnd UnaryOp Invert Not USub UAdd Lambda IfExp Dict Set ListComp comprehension Compare Eq NotEq Lt LtE Gt GtE"
    " Is IsNot In NotIn Call FormattedValue JoinedStr Constant Attribute Subscript Slice Name List Tuple Load Store"
    " keyword".split()
)
BUILTINS = set(
    "len range enumerate zip min max sum abs sorted reversed int str bool list tuple dict set frozenset isinstance"
    " ord repr any all divmod Exception ValueError TypeError KeyError IndexError LookupError ZeroDivisionError"
    " ArithmeticError OverflowError RuntimeError NotImplementedError AttributeError StopIteration".split()
)
DUNDERS = {"__init__", "__eq__", "__repr__", "__str__", "__len__"}
WORDS = (
    r"\b(type|typing|typing_extensions|enum|Enum|IntEnum|StrEnum|Flag|IntFlag|Generic|Protocol|ABC|ABCMeta"
    r"|namedtuple|NamedTuple|TypedDict|TYPE_CHECKING|abstractmethod)\b|dataclass|overload|contextmanager"
)
METHODS = set(
    "append clear copy count endswith extend find get index insert isalnum isalpha isdigit islower isspace isupper"
    " items join keys ljust lower lstrip partition pop remove replace reverse rfind rjust rpartition rsplit rstrip"
    " setdefault split splitlines startswith strip update upper values zfill bit_length".split()
)
OUT_NAMES = set(
    "register mro elements open input version_info with_traceback add_note attrgetter breakpoint builtins compile"
    " copyright credits delattr dir eval exec exit gc getattr globals hasattr help id importlib license locals"
    " methodcaller os quit setattr super type vars sys __name__ chr format format_map".split()
)
WALKERS = {"zip", "enumerate", "reversed", "range", "items", "keys", "values"}
WALKING = {"list", "tuple", "dict", "sorted", "sum", "any", "all", "enumerate", "zip", "min", "max", "join"}
KEYWORDS = {
    "sorted": {"key", "reverse"},
    "min": {"key", "default"},
    "max": {"key", "default"},
    "sum": {"start"},
    "enumerate": {"start"},
    "zip": {"strict"},
}
OWN_AS_PYTHONS = METHODS | {"add", "discard"}
PYTHONS = {name for kind in (str, int, list, dict, set, bytes, tuple) for name in dir(kind)}
PLAIN_TOP = (ast.ImportFrom, ast.FunctionDef, ast.ClassDef, ast.Assign)


def bound_names(node):
    if isinstance(node, ast.Name) and isinstance(node.ctx, ast.Store):
        return [node.id]
    if isinstance(node, ast.arg):
        return [node.arg]
    if isinstance(node, (ast.FunctionDef, ast.ClassDef)):
        return [node.name]
    return []


def top_names(node):
    if isinstance(node, ast.Assign):
        return [node.targets[0].id]
    if isinstance(node, ast.ImportFrom):
        return [alias.name for alias in node.names]
    return bound_names(node)


def is_shadow(node, name):
    # A method may be called like a name of Python's own.
    return hasattr(builtins, name) and not isinstance(node, ast.FunctionDef)


def called_name(node):
    return node.func.id if isinstance(node.func, ast.Name) else getattr(node.func, "attr", None)


def class_parts(trees):
    """All methods of the package's classes, and all values that their objects have."""
    methods, values = set(), set()
    for tree in trees:
        for node in ast.walk(tree):
            if isinstance(node, ast.ClassDef):
                methods |= {part.name for part in node.body if isinstance(part, ast.FunctionDef)}
            if isinstance(node, ast.Attribute) and isinstance(node.ctx, ast.Store):
                values.add(node.attr)
    return methods - DUNDERS, values


def read_all():
    texts = [(path, path.read_text("utf-8")) for path in FILES]
    return [(path, text, ast.parse(text, path.name)) for path, text in texts]


def where(path, node):
    return f"{path.name}:{getattr(node, 'lineno', 0)}"


class Form(unittest.TestCase):
    def test_files(self):
        self.assertIn(PACKAGE / "__init__.py", FILES)
        for path in FILES:
            self.assertRegex(path.name, r"^([a-z][a-z0-9_]*|__init__|__main__)\.py$")

    def test_signs_and_sizes(self):
        for path, text, _ in read_all():
            self.assertRegex(text, r"\A[ -~\n]*\Z", path.name)
            lines = text.split("\n")
            self.assertLessEqual(len(lines), 401, path.name)
            self.assertLessEqual(max(len(line) for line in lines), 120, path.name)

    def test_function_sizes(self):
        for path, _, tree in read_all():
            for node in ast.walk(tree):
                if isinstance(node, ast.FunctionDef):
                    self.assertLessEqual(node.end_lineno - node.lineno + 1, 40, where(path, node))

    def test_words(self):
        for path, text, _ in read_all():
            self.assertIsNone(re.search(WORDS, text), path.name)

    def test_nodes(self):
        for path, _, tree in read_all():
            for node in ast.walk(tree):
                with self.subTest(where(path, node)):
                    self.check_node(node)

    def check_node(self, node):
        self.assertIn(type(node).__name__, NODES)
        if isinstance(node, ast.Constant):
            self.assertIn(type(node.value), (int, str, bool, type(None)))
        if isinstance(node, ast.Assign):
            self.assertEqual(len(node.targets), 1)
        if isinstance(node, (ast.For, ast.While)):
            self.assertEqual(node.orelse, [])
        if isinstance(node, ast.ListComp):
            self.assertEqual(len(node.generators), 1)
            self.assertLessEqual(len(node.generators[0].ifs), 1)

    def test_tops(self):
        for path, _, tree in read_all():
            self.assertIsNotNone(ast.get_docstring(tree), path.name)
            for node in tree.body[1:]:
                self.assertIsInstance(node, PLAIN_TOP, where(path, node))
            names = [name for node in tree.body for name in top_names(node)]
            self.assertEqual(len(names), len(set(names)), path.name)

    def test_imports(self):
        modules = {f"lotjoin.{path.stem}" for path in FILES}
        for path, _, tree in read_all():
            for node in ast.walk(tree):
                if isinstance(node, ast.ImportFrom):
                    self.assertIn(node.module, modules - {f"lotjoin.{path.stem}"}, where(path, node))
                    self.assertEqual(node.level, 0, where(path, node))
                    self.assertNotIn("*", [alias.name for alias in node.names], where(path, node))

    def test_imports_come_from_where_names_are_defined(self):
        tops = {f"lotjoin.{path.stem}": tree.body for path, _, tree in read_all()}
        for path, _, tree in read_all():
            for node in tree.body:
                if isinstance(node, ast.ImportFrom):
                    made = [part for part in tops[node.module] if not isinstance(part, ast.ImportFrom)]
                    names = [name for part in made[1:] for name in top_names(part)]
                    self.assertLessEqual({alias.name for alias in node.names}, set(names), where(path, node))

    def test_every_import_is_used(self):
        for path, _, tree in read_all():
            used = {node.id for node in ast.walk(tree) if isinstance(node, ast.Name)}
            for node in tree.body:
                if isinstance(node, ast.ImportFrom):
                    self.assertLessEqual({alias.name for alias in node.names}, used, where(path, node))

    def test_no_two_files_draw_from_one_another(self):
        drawn = {path.stem: set() for path in FILES}
        for path, _, tree in read_all():
            drawn[path.stem] = {node.module.split(".")[1] for node in tree.body if isinstance(node, ast.ImportFrom)}
        while drawn:
            free = {name for name, others in drawn.items() if not others & set(drawn)}
            self.assertTrue(free, drawn)
            drawn = {name: others for name, others in drawn.items() if name not in free}

    def test_methods(self):
        methods, _ = class_parts([tree for _, _, tree in read_all()])
        for path, _, tree in read_all():
            for node in ast.walk(tree):
                if isinstance(node, ast.Call) and isinstance(node.func, ast.Attribute):
                    self.assertIn(node.func.attr, METHODS | methods, where(path, node))

    def test_methods_and_values_of_classes(self):
        methods, values = class_parts([tree for _, _, tree in read_all()])
        self.assertEqual(methods & values, set())
        self.assertEqual((methods - OWN_AS_PYTHONS) & PYTHONS, set())
        self.assertEqual(values & PYTHONS, set())
        self.assertEqual(values & {"args"}, set())

    def test_class_bodies(self):
        for path, _, tree in read_all():
            for node in ast.walk(tree):
                if isinstance(node, ast.ClassDef):
                    self.assertLessEqual(len(node.bases), 1, where(path, node))
                    self.assertEqual(node.decorator_list, [], where(path, node))
                    names = [part.name for part in node.body if not isinstance(part, ast.Pass)]
                    self.assertEqual(len(names), len(set(names)), where(path, node))

    def test_names_that_are_out(self):
        for path, _, tree in read_all():
            for node in ast.walk(tree):
                for name in (getattr(node, "id", None), getattr(node, "attr", None), getattr(node, "name", None)):
                    self.assertNotIn(name, OUT_NAMES, where(path, node))

    def test_locals_are_not_called_like_classes_or_imports(self):
        for path, _, tree in read_all():
            kinds = (ast.ImportFrom, ast.ClassDef)
            taken = {name for node in tree.body if isinstance(node, kinds) for name in top_names(node)}
            for node in ast.walk(tree):
                if isinstance(node, (ast.Name, ast.arg)):
                    self.assertEqual(taken & set(bound_names(node)), set(), where(path, node))

    def test_keywords(self):
        for path, _, tree in read_all():
            for node in ast.walk(tree):
                if isinstance(node, ast.Call):
                    allowed = KEYWORDS.get(called_name(node), set())
                    self.assertLessEqual({word.arg for word in node.keywords}, allowed, where(path, node))

    def test_walkers_are_walked_on_the_spot(self):
        for path, _, tree in read_all():
            walked = {id(node.iter) for node in ast.walk(tree) if isinstance(node, (ast.For, ast.comprehension))}
            calls = [node for node in ast.walk(tree) if isinstance(node, ast.Call)]
            walked |= {id(part) for node in calls if called_name(node) in WALKING for part in node.args}
            for node in calls:
                if called_name(node) in WALKERS:
                    self.assertIn(id(node), walked, where(path, node))

    def test_handlers_take_own_errors(self):
        for path, _, tree in read_all():
            for node in ast.walk(tree):
                if isinstance(node, ast.ExceptHandler):
                    kinds = node.type.elts if isinstance(node.type, ast.Tuple) else [node.type]
                    for kind in kinds:
                        self.assertNotIn(kind.id, BUILTINS, where(path, node))
                if isinstance(node, ast.Try):
                    self.assertEqual(node.finalbody, [], where(path, node))
                if isinstance(node, ast.Raise):
                    self.assertIsInstance(node.exc, ast.Call, where(path, node))

    def test_texts_and_powers(self):
        for path, _, tree in read_all():
            for node in ast.walk(tree):
                if isinstance(node, ast.Constant) and isinstance(node.value, str):
                    self.assertNotIn("%", node.value, where(path, node))
                if isinstance(node, ast.BinOp) and isinstance(node.op, ast.Pow):
                    self.assertIsInstance(node.right, ast.Constant, where(path, node))

    def test_is_stands_beside_none_and_truths(self):
        for path, _, tree in read_all():
            for node in ast.walk(tree):
                if isinstance(node, ast.Compare) and isinstance(node.ops[0], (ast.Is, ast.IsNot)):
                    sides = [node.left] + node.comparators
                    plain = [side for side in sides if isinstance(side, ast.Constant)]
                    self.assertTrue(any(side.value in (None, True, False) for side in plain), where(path, node))

    def test_sets_are_not_kept(self):
        for path, _, tree in read_all():
            within = [node.args for node in ast.walk(tree) if isinstance(node, ast.Call)]
            within += [[node.left] + node.comparators for node in ast.walk(tree) if isinstance(node, ast.Compare)]
            spots = {id(spot) for spots in within for spot in spots}
            for node in ast.walk(tree):
                if isinstance(node, ast.Call) and isinstance(node.func, ast.Name) and node.func.id == "set":
                    self.assertIn(id(node), spots, where(path, node))

    def test_names(self):
        for path, _, tree in read_all():
            for node in ast.walk(tree):
                for name in bound_names(node):
                    self.assertTrue(name in DUNDERS or re.match(r"[A-Za-z]\w*\Z", name), where(path, node))
                    self.assertFalse(is_shadow(node, name), where(path, node))
                if isinstance(node, ast.Name) and hasattr(builtins, node.id):
                    self.assertIn(node.id, BUILTINS, where(path, node))


if __name__ == "__main__":
    unittest.main()
