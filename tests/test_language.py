"""The package's files keep to the small part of Python that they are written in."""

import ast
import builtins
import pathlib
import re
import unittest

PACKAGE = pathlib.Path(__file__).resolve().parent.parent / "mailmoves"
FILES = sorted(path for path in PACKAGE.rglob("*") if path.is_file() and "__pycache__" not in path.parts)

NODES = (
    ast.Module, ast.ImportFrom, ast.alias, ast.FunctionDef, ast.arguments, ast.arg, ast.ClassDef, ast.Lambda,
    ast.Assign, ast.AugAssign, ast.If, ast.While, ast.For, ast.Return, ast.Break, ast.Continue, ast.Pass, ast.Raise,
    ast.Try, ast.ExceptHandler, ast.Expr, ast.Constant, ast.List, ast.Tuple, ast.Dict, ast.BinOp, ast.UnaryOp,
    ast.BoolOp, ast.Compare, ast.IfExp, ast.Call, ast.keyword, ast.Attribute, ast.Subscript, ast.Slice, ast.ListComp,
    ast.comprehension, ast.JoinedStr, ast.FormattedValue, ast.Name, ast.expr_context, ast.boolop, ast.operator,
    ast.unaryop, ast.cmpop,
)
OWN_NAMES = """len range enumerate zip min max sum abs sorted reversed int str bool list tuple dict set frozenset
isinstance ord repr any all divmod Exception ValueError TypeError KeyError IndexError LookupError ZeroDivisionError
ArithmeticError OverflowError RuntimeError NotImplementedError AttributeError StopIteration""".split()
METHODS = """append clear copy count endswith extend find get index insert isalnum isalpha isdigit islower isspace
isupper items join keys ljust lower lstrip partition pop remove replace reverse rfind rjust rpartition rsplit rstrip
setdefault split splitlines startswith strip update upper values zfill bit_length""".split()
UNUSED_WORDS = """type typing typing_extensions enum Enum IntEnum StrEnum Flag IntFlag Generic Protocol ABC ABCMeta
namedtuple NamedTuple TypedDict TYPE_CHECKING abstractmethod""".split()
UNUSED_NAMES = "register mro elements open input version_info with_traceback add_note format format_map".split()
SPECIAL = ("__init__", "__eq__", "__repr__", "__str__", "__len__")


def tree_of(path):
    return ast.parse(path.read_text(encoding="utf-8"))


def nodes_of(*kinds):
    return [(path, node) for path in FILES for node in ast.walk(tree_of(path)) if isinstance(node, kinds)]


def where(path, node):
    return f"{path.name}:{getattr(node, 'lineno', 0)}"


def bound_names(node):
    if isinstance(node, (ast.FunctionDef, ast.ClassDef)):
        return [node.name]
    if isinstance(node, ast.arg):
        return [node.arg]
    if isinstance(node, ast.Name) and isinstance(node.ctx, ast.Store):
        return [node.id]
    if isinstance(node, ast.ExceptHandler) and node.name:
        return [node.name]
    return []


def methods_and_values():
    methods, values = set(), set()
    for path, kind in nodes_of(ast.ClassDef):
        methods |= {part.name for part in kind.body if isinstance(part, ast.FunctionDef)}
    for path, node in nodes_of(ast.Attribute):
        if isinstance(node.ctx, ast.Store):
            values.add(node.attr)
    return methods, values


class Files(unittest.TestCase):
    def test_only_plain_files_of_plain_names(self):
        self.assertTrue(FILES)
        for path in FILES:
            self.assertRegex(path.name, r"^[a-z0-9_]+\.py$")
            self.assertFalse(re.match(r"test|site|conftest|usercustomize", path.stem), path.name)
            self.assertFalse(path.stem in vars(builtins), path.name)

    def test_signs_and_sizes(self):
        for path in FILES:
            rows = path.read_bytes().decode("ascii").split("\n")
            self.assertLessEqual(len(rows), 400, path.name)
            for number, row in enumerate(rows, 1):
                self.assertLessEqual(len(row), 120, f"{path.name}:{number}")
                self.assertTrue(all(" " <= sign <= "~" for sign in row), f"{path.name}:{number}")

    def test_functions_are_short(self):
        for path, node in nodes_of(ast.FunctionDef):
            self.assertLessEqual(node.end_lineno - node.lineno + 1, 40, where(path, node))

    def test_words_that_stand_nowhere(self):
        for path in FILES:
            text = path.read_text(encoding="utf-8")
            for word in UNUSED_WORDS:
                self.assertIsNone(re.search(rf"\b{word}\b", text), f"{path.name}: {word}")
            self.assertIsNone(re.search("dataclass|overload|contextmanager", text), path.name)


class Forms(unittest.TestCase):
    def test_statements_and_expressions(self):
        for path, node in nodes_of(ast.AST):
            self.assertIsInstance(node, NODES, where(path, node))
            self.assertNotIsInstance(node, (ast.Div, ast.MatMult), where(path, node))
        for path, node in nodes_of(ast.Constant):
            self.assertIn(type(node.value), (int, str, bool, type(None)), where(path, node))
            self.assertNotIn("%", str(node.value), where(path, node))
        for path, node in nodes_of(ast.For, ast.While):
            self.assertFalse(node.orelse, where(path, node))
        for path, node in nodes_of(ast.Try):
            self.assertFalse(node.finalbody, where(path, node))
        for path, node in nodes_of(ast.Assign):
            self.assertEqual(len(node.targets), 1, where(path, node))

    def test_imports_are_the_packages_own(self):
        for path, node in nodes_of(ast.ImportFrom):
            self.assertEqual(node.level, 0, where(path, node))
            self.assertTrue(node.module.startswith("mailmoves."), where(path, node))
            file = PACKAGE / (node.module.split(".")[1] + ".py")
            defined = [name for part in tree_of(file).body for target in [part] + getattr(part, "targets", [])
                       for name in bound_names(target)]
            for alias in node.names:
                self.assertIn(alias.name, defined, where(path, node))

    def test_no_two_files_draw_from_one_another(self):
        drawn = {path.stem: {node.module.split(".")[1] for node in ast.walk(tree_of(path))
                             if isinstance(node, ast.ImportFrom)} for path in FILES}
        while drawn:
            free = [stem for stem, others in drawn.items() if not others & drawn.keys()]
            self.assertTrue(free, f"these draw from one another: {sorted(drawn)}")
            drawn = {stem: others for stem, others in drawn.items() if stem not in free}

    def test_sets_are_not_kept(self):
        for path, node in nodes_of(ast.AST):
            for inner in ast.iter_child_nodes(node):
                if isinstance(inner, ast.Call) and isinstance(inner.func, ast.Name) and inner.func.id == "set":
                    self.assertTrue(isinstance(node, (ast.Compare, ast.BinOp)) or isinstance(node, ast.Call)
                                    and node.func.id in ("sorted", "len") and not node.keywords, where(path, node))

    def test_functions_and_classes_are_plain(self):
        for path, node in nodes_of(ast.FunctionDef, ast.ClassDef):
            self.assertEqual(node.decorator_list, [], where(path, node))
        for path, node in nodes_of(ast.arguments):
            self.assertFalse(node.vararg or node.kwarg or node.kwonlyargs or node.posonlyargs, path.name)
        for path, node in nodes_of(ast.ClassDef):
            self.assertLessEqual(len(node.bases), 1, where(path, node))
            for part in node.body:
                self.assertIsInstance(part, (ast.FunctionDef, ast.Expr, ast.Pass), where(path, part))

    def test_comprehensions_have_one_for(self):
        for path, node in nodes_of(ast.ListComp):
            self.assertEqual(len(node.generators), 1, where(path, node))
            self.assertLessEqual(len(node.generators[0].ifs), 1, where(path, node))

    def test_is_stands_beside_plain_values_alone(self):
        for path, node in nodes_of(ast.Compare):
            if any(isinstance(sign, (ast.Is, ast.IsNot)) for sign in node.ops):
                self.assertIsInstance(node.comparators[0], ast.Constant, where(path, node))

    def test_the_top_of_a_module_holds_plain_values(self):
        plain = (ast.Constant, ast.UnaryOp, ast.USub, ast.Tuple, ast.List, ast.Dict, ast.Name, ast.Load)
        for path in FILES:
            for part in tree_of(path).body:
                self.assertIsInstance(part, (ast.Expr, ast.ImportFrom, ast.FunctionDef, ast.ClassDef, ast.Assign))
                for node in ast.walk(part.value) if isinstance(part, ast.Assign) else []:
                    self.assertIsInstance(node, plain, where(path, part))


class Names(unittest.TestCase):
    def test_pythons_own_names(self):
        for path, node in nodes_of(ast.Name):
            if node.id in vars(builtins):
                self.assertIn(node.id, OWN_NAMES, where(path, node))

    def test_names_that_are_bound(self):
        for path, node in nodes_of(ast.AST):
            for name in bound_names(node):
                if name not in SPECIAL:
                    self.assertRegex(name, r"^[A-Za-z][A-Za-z0-9_]*$", where(path, node))
                    self.assertFalse(name in vars(builtins), where(path, node))
                    self.assertNotIn(name, UNUSED_NAMES, where(path, node))

    def test_locals_are_called_like_no_class_and_no_import(self):
        for path in FILES:
            tree = tree_of(path)
            taken = [part.name for part in tree.body if isinstance(part, ast.ClassDef)]
            taken += [alias.name for part in tree.body if isinstance(part, ast.ImportFrom) for alias in part.names]
            for node in ast.walk(tree):
                if not isinstance(node, ast.ClassDef):
                    self.assertFalse(set(bound_names(node)) & set(taken), where(path, node))

    def test_a_name_is_bound_once_at_a_files_top(self):
        for path in FILES:
            names = [name for part in tree_of(path).body for target in [part] + getattr(part, "targets", [])
                     for name in bound_names(target)]
            self.assertEqual(len(names), len(set(names)), path.name)

    def test_methods(self):
        methods, values = methods_and_values()
        self.assertEqual(methods & values, set())
        for path, node in nodes_of(ast.Attribute):
            self.assertIn(node.attr, list(methods | values) + METHODS, where(path, node))
            self.assertNotIn(node.attr, UNUSED_NAMES, where(path, node))

    def test_own_methods_and_values_are_called_like_none_of_pythons(self):
        methods, values = methods_and_values()
        taken = {name for kind in (str, int, list, tuple, dict, set, bytes) for name in dir(kind)}
        self.assertEqual((methods | values) & taken - set(SPECIAL), set())


if __name__ == "__main__":
    unittest.main()
