"""The package keeps to LANGUAGE.md, as far as a walk over its files can see; the numbers name the rules."""

import ast
import builtins
import pathlib
import re
import unittest

PACKAGE = pathlib.Path(__file__).resolve().parent.parent / "halftold"

NODES = (
    ast.Module, ast.Expr, ast.Constant, ast.ImportFrom, ast.alias, ast.FunctionDef, ast.ClassDef, ast.arguments,
    ast.arg, ast.Lambda, ast.Assign, ast.AugAssign, ast.If, ast.While, ast.For, ast.Return, ast.Break, ast.Continue,
    ast.Pass, ast.Raise, ast.Try, ast.ExceptHandler, ast.Call, ast.keyword, ast.Name, ast.Attribute, ast.Subscript,
    ast.Slice, ast.List, ast.Tuple, ast.Dict, ast.ListComp, ast.comprehension, ast.BinOp, ast.UnaryOp, ast.BoolOp,
    ast.Compare, ast.IfExp, ast.JoinedStr, ast.FormattedValue, ast.expr_context, ast.operator, ast.unaryop,
    ast.boolop, ast.cmpop,
)
BUILTINS = set("""len range enumerate zip min max sum abs sorted reversed int str bool list tuple dict set frozenset
    isinstance ord repr any all divmod Exception ValueError KeyError IndexError LookupError ZeroDivisionError
    ArithmeticError OverflowError RuntimeError NotImplementedError StopIteration""".split())
METHODS = set("""append clear copy count endswith extend find get index insert isalnum isalpha isdigit islower isspace
    isupper items join keys ljust lower lstrip partition pop remove replace reverse rfind rjust rpartition rsplit
    rstrip setdefault split splitlines startswith strip update upper values zfill bit_length""".split())
TWO_UNDERSCORES = {"__init__", "__eq__", "__repr__", "__str__", "__len__"}
UNUSED = set("""register mro elements open input version_info with_traceback add_note attrgetter breakpoint builtins
    compile copyright credits delattr dir eval exec exit gc getattr globals hasattr help id importlib license locals
    methodcaller os quit setattr super type vars sys chr""".split())
WORDS = re.compile(r"\b(type|typing|typing_extensions|enum|Enum|IntEnum|StrEnum|Flag|IntFlag|Generic|Protocol|ABC"
                   r"|ABCMeta|namedtuple|NamedTuple|TypedDict|TYPE_CHECKING|abstractmethod)\b"
                   r"|dataclass|overload|contextmanager")


WALKED = ("zip", "enumerate", "reversed", "range", "items", "keys", "values")
WALKERS = ("list", "tuple", "dict", "sorted", "sum", "any", "all", "enumerate", "zip", "join")
KEYWORDS = {"sorted": ("key", "reverse"), "min": ("key", "default"), "max": ("key", "default"), "sum": ("start",),
            "enumerate": ("start",), "zip": ("strict",)}


def called(node):
    """The name that a call calls, of a function or a method."""
    if not isinstance(node, ast.Call):
        return None
    return node.func.id if isinstance(node.func, ast.Name) else node.func.attr


class LanguageTest(unittest.TestCase):
    def setUp(self):
        self.files = sorted(PACKAGE.glob("*.py"))
        self.trees = {path: ast.parse(path.read_text(encoding="utf-8")) for path in self.files}

    def nodes(self, *kinds):
        for path, tree in self.trees.items():
            for node in ast.walk(tree):
                if isinstance(node, kinds):
                    yield f"{path.name}:{getattr(node, 'lineno', 0)}", node

    def test_l1_only_python_files(self):
        others = [path for path in PACKAGE.iterdir() if path not in self.files and path.name != "__pycache__"]
        self.assertEqual(others, [])
        self.assertIn(PACKAGE / "__init__.py", self.files)

    def test_l2_l9_l16_imports_of_its_own_alone(self):
        for where, node in self.nodes(ast.ImportFrom):
            self.assertEqual(node.level, 0, where)
            self.assertRegex(node.module, r"^halftold\.[a-z]+$", where)
            defined = [found.name for found in self.trees[PACKAGE / (node.module.split(".")[1] + ".py")].body
                       if isinstance(found, (ast.FunctionDef, ast.ClassDef))]
            for name in node.names:
                self.assertIn(name.name, defined, where)
        self.assertEqual([type(node) for node in self.trees[PACKAGE / "__init__.py"].body], [ast.Expr])

    def test_l3_l15_the_top_of_a_file(self):
        for path, tree in self.trees.items():
            names = [node.name for node in tree.body if isinstance(node, (ast.FunctionDef, ast.ClassDef))]
            self.assertEqual(len(names), len(set(names)), path.name)
            for number, node in enumerate(tree.body):
                fits = isinstance(node, (ast.ImportFrom, ast.FunctionDef, ast.ClassDef, ast.Assign))
                self.assertTrue(fits or number == 0, path.name)

    def test_l4_l5_l21_plain_functions_and_classes(self):
        for where, node in self.nodes(ast.FunctionDef):
            told = node.args
            self.assertFalse(node.decorator_list or told.vararg or told.kwarg or told.kwonlyargs, where)
            self.assertFalse(node.returns or [found for found in told.args if found.annotation], where)
        for where, node in self.nodes(ast.ClassDef):
            self.assertFalse(node.decorator_list or node.keywords or len(node.bases) > 1, where)
            for part in node.body:
                self.assertIsInstance(part, (ast.FunctionDef, ast.Pass), where)

    def test_l6_l7_only_the_parts_told(self):
        for where, node in self.nodes(ast.AST):
            self.assertIsInstance(node, NODES, where)
            self.assertNotIsInstance(node, (ast.Div, ast.MatMult), where)
            if isinstance(node, ast.Constant):
                self.assertIsInstance(node.value, (int, str, type(None)), where)
            if isinstance(node, ast.Assign):
                self.assertEqual(len(node.targets), 1, where)
                self.assertNotIsInstance(node.targets[0], (ast.Tuple, ast.List), where)
            if isinstance(node, (ast.For, ast.While)):
                self.assertEqual(node.orelse, [], where)
            if isinstance(node, ast.ListComp):
                self.assertEqual(len(node.generators), 1, where)
                self.assertLessEqual(len(node.generators[0].ifs), 1, where)

    def test_l6_nothing_stands_by_itself_but_a_call(self):
        for path, tree in self.trees.items():
            self.assertIsInstance(ast.get_docstring(tree), str, path.name)
            for node in ast.walk(tree):
                if isinstance(node, ast.Expr) and node != tree.body[0]:
                    self.assertIsInstance(node.value, ast.Call, f"{path.name}:{node.lineno}")

    def test_l16_no_two_files_draw_from_one_another(self):
        drawn = {path.stem: {node.module.split(".")[1] for node in tree.body if isinstance(node, ast.ImportFrom)}
                 for path, tree in self.trees.items()}
        while drawn:
            free = [name for name in drawn if not drawn[name] & set(drawn)]
            self.assertNotEqual(free, [], drawn)
            for name in free:
                del drawn[name]

    def test_l22_keywords_and_kinds(self):
        for where, node in self.nodes(ast.Call):
            for given in node.keywords:
                self.assertIn(given.arg, KEYWORDS.get(called(node), ()), where)
            if called(node) == "isinstance":
                kinds = node.args[1].elts if isinstance(node.args[1], ast.Tuple) else [node.args[1]]
                for kind in kinds:
                    self.assertIn(kind.id, ("int", "str", "bool", "list", "tuple", "dict"), where)

    def test_l23_walked_at_once(self):
        fit = set()
        for where, node in self.nodes(ast.For, ast.comprehension, ast.Call):
            if not isinstance(node, ast.Call):
                fit.add(node.iter)
            elif called(node) in WALKERS or (called(node) in ("min", "max") and len(node.args) == 1):
                fit.update(node.args[:1])
        for where, node in self.nodes(ast.Call):
            if called(node) in WALKED:
                self.assertIn(node, fit, where)

    def test_l13_l19_l24_l27_what_is_not_needed_here(self):
        for where, node in self.nodes(ast.Pow, ast.Try, ast.Lambda, ast.JoinedStr):
            self.fail(where)
        for where, node in self.nodes(ast.Name):
            self.assertNotIn(node.id, ("set", "frozenset"), where)
        for where, node in self.nodes(ast.Raise):
            self.assertIsInstance(node.exc, ast.Call, where)

    def test_l8_l12_l15_l17_names(self):
        for where, node in self.nodes(ast.Name, ast.arg, ast.FunctionDef, ast.ClassDef):
            name = getattr(node, "id", None) or getattr(node, "arg", None) or getattr(node, "name", None)
            self.assertNotIn(name, UNUSED, where)
            self.assertTrue(name in TWO_UNDERSCORES or not name.startswith("_"), where)
            if hasattr(builtins, name) and name not in TWO_UNDERSCORES:
                self.assertIn(name, BUILTINS, where)
                self.assertIsInstance(getattr(node, "ctx", None), ast.Load, where)

    def test_l15_no_local_is_called_like_a_class_or_an_import(self):
        for path, tree in self.trees.items():
            taken = [node.name for node in tree.body if isinstance(node, ast.ClassDef)]
            for node in tree.body:
                if isinstance(node, ast.ImportFrom):
                    taken.extend(name.name for name in node.names)
            for node in ast.walk(tree):
                if isinstance(node, ast.arg):
                    self.assertNotIn(node.arg, taken, path.name)
                if isinstance(node, ast.Name) and isinstance(node.ctx, ast.Store):
                    self.assertNotIn(node.id, taken, path.name)

    def test_l18_l25_l26_methods_and_values(self):
        own = {part.name for where, node in self.nodes(ast.ClassDef) for part in node.body
               if isinstance(part, ast.FunctionDef)}
        given = {node.attr for where, node in self.nodes(ast.Attribute) if isinstance(node.ctx, ast.Store)}
        self.assertEqual(own & given, set())
        for kind in (str, int, list, dict, set, bytes):
            self.assertEqual([name for name in (own - TWO_UNDERSCORES) | given if hasattr(kind, name)], [])
        for where, node in self.nodes(ast.Attribute):
            self.assertIn(node.attr, own | given | METHODS, where)

    def test_l20_is_stands_beside_none_true_and_false_alone(self):
        for where, node in self.nodes(ast.Compare):
            for sign, other in zip(node.ops, node.comparators):
                if isinstance(sign, (ast.Is, ast.IsNot)):
                    self.assertIsInstance(other, ast.Constant, where)

    def test_l10_size(self):
        for path in self.files:
            rows = path.read_text(encoding="utf-8").split("\n")
            self.assertLessEqual(len(rows), 400, path.name)
            self.assertLessEqual(max(len(row) for row in rows), 120, path.name)
        for where, node in self.nodes(ast.FunctionDef):
            self.assertLessEqual(node.end_lineno - node.lineno + 1, 40, where)

    def test_l14_l17_l27_signs_and_words(self):
        for path in self.files:
            whole = path.read_text(encoding="utf-8")
            self.assertRegex(whole, r"^[ -~\n]*$", path.name)
            self.assertIsNone(WORDS.search(whole), path.name)
        for where, node in self.nodes(ast.Constant):
            if isinstance(node.value, str):
                self.assertNotIn("%", node.value, where)


if __name__ == "__main__":
    unittest.main()
