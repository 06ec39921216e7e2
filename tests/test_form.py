"""The form of the package's files: each test names the rules of LANGUAGE.md that it looks at."""

import ast
import builtins
import re
import unittest
from pathlib import Path

PACKAGE = Path(__file__).resolve().parent.parent / "lawdays"

STATEMENTS = (
    ast.Module, ast.FunctionDef, ast.ClassDef, ast.arguments, ast.arg, ast.ImportFrom, ast.alias, ast.Assign,
    ast.AugAssign, ast.If, ast.While, ast.For, ast.Return, ast.Break, ast.Continue, ast.Pass, ast.Raise, ast.Try,
    ast.ExceptHandler, ast.Expr,
)
EXPRESSIONS = (
    ast.Constant, ast.List, ast.Tuple, ast.Dict, ast.Set, ast.BinOp, ast.UnaryOp, ast.BoolOp, ast.Compare, ast.IfExp,
    ast.Call, ast.keyword, ast.Attribute, ast.Subscript, ast.Slice, ast.ListComp, ast.comprehension, ast.JoinedStr,
    ast.FormattedValue, ast.Lambda, ast.Name, ast.operator, ast.unaryop, ast.boolop, ast.cmpop, ast.expr_context,
)
PYTHONS_NAMES = """len range enumerate zip min max sum abs sorted reversed int str bool list tuple dict set frozenset
    isinstance ord repr any all divmod Exception ValueError TypeError KeyError IndexError LookupError ZeroDivisionError
    ArithmeticError OverflowError RuntimeError NotImplementedError AttributeError StopIteration""".split()
PYTHONS_METHODS = """append clear copy count endswith extend find get index insert isalnum isalpha isdigit islower
    isspace isupper items join keys ljust lower lstrip partition pop remove replace reverse rfind rjust rpartition
    rsplit rstrip setdefault split splitlines startswith strip update upper values zfill bit_length""".split()
VALUES = "count index title find get join lower upper split strip copy add".split()
OWN_DOUBLE = ["__init__", "__eq__", "__repr__", "__str__", "__len__"]
UNUSED_NAMES = """register mro elements open input version_info with_traceback add_note attrgetter breakpoint builtins
    compile copyright credits delattr dir eval exec exit gc getattr globals hasattr help id importlib license locals
    methodcaller os quit setattr super type vars sys format format_map chr print""".split()
UNUSED_WORDS = re.compile(
    r"\b(type|typing|typing_extensions|enum|Enum|IntEnum|StrEnum|Flag|IntFlag|Generic|Protocol|ABC|ABCMeta|namedtuple|"
    r"NamedTuple|TypedDict|TYPE_CHECKING|abstractmethod)\b|dataclass|overload|contextmanager"
)


def files():
    return sorted(path for path in PACKAGE.rglob("*") if "__pycache__" not in path.parts)


# Read once, so that a node that is met twice is the same node.
TREES = {path.stem: ast.parse(path.read_text()) for path in files()}


def nodes(kind):
    return [(name, node) for name, tree in TREES.items() for node in ast.walk(tree) if isinstance(node, kind)]


def is_plain(node, functions):
    """L3: what a name at a file's top may be given."""
    if isinstance(node, ast.UnaryOp) and isinstance(node.op, ast.USub):
        node = node.operand
    if isinstance(node, ast.Constant):
        return node.value is None or isinstance(node.value, (bool, int, str))
    if isinstance(node, ast.Name):
        return node.id in functions
    if isinstance(node, (ast.List, ast.Tuple)):
        return all(is_plain(part, functions) for part in node.elts)
    if isinstance(node, ast.Dict):
        return all(is_plain(part, functions) for part in node.keys + node.values)
    return False


class Files(unittest.TestCase):
    def test_L1_L14_names_and_signs(self):
        self.assertIn(PACKAGE / "__init__.py", files())
        for path in files():
            self.assertRegex(path.name, r"^([a-z][a-z0-9_]*|__init__)\.py$")
            self.assertTrue(path.stem == "__init__" or not hasattr(builtins, path.stem), path)
            self.assertRegex(path.read_text(), r"^[ -~\n]*$", path)

    def test_L10_size(self):
        for path in files():
            lines = path.read_text().split("\n")
            self.assertLess(len(lines), 400, path)
            self.assertLessEqual(max(map(len, lines)), 120, path)
        for name, node in nodes(ast.FunctionDef):
            self.assertLessEqual(node.end_lineno - node.lineno + 1, 40, (name, node.name))

    def test_L17_words(self):
        for path in files():
            self.assertIsNone(UNUSED_WORDS.search(path.read_text()), path)

    def test_L27_texts(self):
        for name, node in nodes(ast.Constant):
            self.assertFalse(isinstance(node.value, str) and "%" in node.value, name)


class Tops(unittest.TestCase):
    def test_L3_L15_what_stands_at_the_top(self):
        for name, tree in TREES.items():
            bound = []
            functions = []
            for node in tree.body:
                if isinstance(node, ast.Assign):
                    self.assertTrue(is_plain(node.value, functions), (name, node.lineno))
                    bound.append(node.targets[0].id)
                elif isinstance(node, (ast.FunctionDef, ast.ClassDef)):
                    bound.append(node.name)
                    functions.append(node.name)
                elif isinstance(node, ast.ImportFrom):
                    bound.extend(alias.name for alias in node.names)
                else:
                    self.assertTrue(node is tree.body[0] and ast.get_docstring(tree), (name, node.lineno))
            self.assertEqual(len(bound), len(set(bound)), name)

    def test_L2_L16_imports(self):
        drawn = {name: [] for name in TREES}
        for name, node in nodes(ast.ImportFrom):
            self.assertEqual(node.level, 0, name)
            package, file = node.module.split(".")
            self.assertEqual(package, "lawdays", name)
            tops = [getattr(top, "name", None) or (top.targets[0].id if isinstance(top, ast.Assign) else None)
                    for top in TREES[file].body]
            for alias in node.names:
                self.assertIn(alias.name, tops, name)
                self.assertIsNone(alias.asname, name)
            drawn[name].append(file)
        while drawn:
            done = [name for name in drawn if not any(file in drawn for file in drawn[name])]
            self.assertTrue(done, drawn)
            drawn = {name: drawn[name] for name in drawn if name not in done}

    def test_L16_the_interface(self):
        where = [name for name, tree in TREES.items() for node in tree.body if getattr(node, "name", "") == "answers"]
        self.assertEqual(where, ["book"])


class Within(unittest.TestCase):
    def test_L6_L7_statements_and_expressions(self):
        for name, node in nodes(ast.AST):
            self.assertIsInstance(node, STATEMENTS + EXPRESSIONS, (name, getattr(node, "lineno", 0)))
            self.assertNotIsInstance(node, (ast.Div, ast.MatMult), name)
        for name, node in nodes(ast.Constant):
            self.assertTrue(node.value is None or isinstance(node.value, (bool, int, str)), (name, node.lineno))
        for name, node in nodes(ast.Assign):
            self.assertEqual(len(node.targets), 1, (name, node.lineno))
        for name, node in nodes((ast.For, ast.While)):
            self.assertEqual(node.orelse, [], (name, node.lineno))
        for name, node in nodes(ast.Expr):
            self.assertIsInstance(node.value, (ast.Call, ast.Constant), (name, node.lineno))

    def test_L4_L5_functions_and_classes(self):
        for name, node in nodes((ast.FunctionDef, ast.ClassDef)):
            self.assertEqual(node.decorator_list, [], (name, node.name))
        for name, node in nodes(ast.arguments):
            self.assertEqual((node.vararg, node.kwarg, node.kwonlyargs, node.posonlyargs), (None, None, [], []), name)
        for name, node in nodes(ast.ClassDef):
            self.assertLessEqual(len(node.bases), 1, (name, node.name))
            for part in node.body:
                text = isinstance(part, ast.Expr) and isinstance(part.value, ast.Constant)
                self.assertTrue(text or isinstance(part, ast.FunctionDef), (name, node.name))

    def test_L8_L12_L15_L17_names(self):
        for name, node in nodes((ast.Name, ast.Attribute, ast.arg, ast.FunctionDef, ast.ClassDef)):
            word = {ast.Name: "id", ast.Attribute: "attr", ast.arg: "arg"}.get(type(node), "name")
            word = getattr(node, word)
            self.assertTrue(word in OWN_DOUBLE or re.match(r"^[A-Za-z][A-Za-z0-9_]*$", word), (name, word))
            self.assertNotIn(word, UNUSED_NAMES, name)
            if isinstance(node, ast.Name) and hasattr(builtins, word):
                self.assertIn(word, PYTHONS_NAMES, name)
                self.assertIsInstance(node.ctx, ast.Load, (name, word))
            if isinstance(node, ast.arg):
                self.assertFalse(hasattr(builtins, word), (name, word))

    def test_L18_L25_L26_methods_and_values(self):
        methods = [part.name for _, node in nodes(ast.ClassDef) for part in node.body
                   if isinstance(part, ast.FunctionDef)]
        called = [node.func for _, node in nodes(ast.Call) if isinstance(node.func, ast.Attribute)]
        for node in called:
            self.assertIn(node.attr, methods + PYTHONS_METHODS)
        for name, node in nodes(ast.Attribute):
            if node not in called:
                self.assertNotIn(node.attr, methods, name)
                taken = any(hasattr(kind, node.attr) for kind in (str, int, list, dict, set, bytes))
                self.assertTrue(node.attr in VALUES or not taken, (name, node.attr))

    def test_L20_is(self):
        for name, node in nodes(ast.Compare):
            for sign, right in zip(node.ops, node.comparators):
                if isinstance(sign, (ast.Is, ast.IsNot)):
                    self.assertIsInstance(right, ast.Constant, name)
                    self.assertIn(right.value, (None, True, False), name)

    def test_L15_no_local_is_called_like_an_import_or_a_class(self):
        for name, tree in TREES.items():
            taken = [alias.name for node in tree.body if isinstance(node, ast.ImportFrom) for alias in node.names]
            taken += [node.name for node in tree.body if isinstance(node, (ast.ClassDef, ast.FunctionDef))]
            for node in ast.walk(tree):
                if isinstance(node, ast.arg):
                    self.assertNotIn(node.arg, taken, name)
                if isinstance(node, ast.Name) and isinstance(node.ctx, ast.Store):
                    self.assertNotIn(node.id, taken, name)

    def test_L15_what_stands_at_the_top_is_numbers_alone(self):
        # Narrower than the rule: a list or dict that is not there can't be changed or handed on.
        for name, tree in TREES.items():
            for node in tree.body:
                if isinstance(node, ast.Assign):
                    self.assertIsInstance(ast.literal_eval(node.value), int, (name, node.lineno))

    def test_L13_L24_no_sets(self):
        self.assertEqual(nodes(ast.Set), [])
        for name, node in nodes(ast.Name):
            self.assertNotIn(node.id, ("set", "frozenset"), name)

    def test_L13_one_lambda_a_line(self):
        lines = [(name, node.lineno) for name, node in nodes(ast.Lambda)]
        self.assertEqual(len(lines), len(set(lines)))

    def test_L19_no_errors_are_raised_or_taken(self):
        # Narrower than the rule: the document names no error.
        self.assertEqual(nodes((ast.Try, ast.Raise, ast.ExceptHandler)), [])

    def test_L21_no_annotations(self):
        for name, node in nodes(ast.FunctionDef):
            self.assertIsNone(node.returns, (name, node.name))
        for name, node in nodes(ast.arg):
            self.assertIsNone(node.annotation, (name, node.arg))

    def test_L22_pythons_own_are_called_on_the_spot(self):
        called = [node.func for _, node in nodes(ast.Call)]
        for name, node in nodes(ast.Name):
            if hasattr(builtins, node.id):
                self.assertIn(node, called, (name, node.id))
        for name, node in nodes(ast.Call):
            for keyword in node.keywords:
                self.assertEqual((node.func.id, keyword.arg), ("sorted", "key"), (name, node.lineno))

    def test_L23_walked_at_once(self):
        walked = [node.iter for _, node in nodes((ast.For, ast.comprehension))]
        for name, node in nodes(ast.Call):
            word = getattr(node.func, "id", getattr(node.func, "attr", ""))
            if word in ("zip", "enumerate", "reversed", "range", "items", "keys", "values"):
                self.assertIn(node, walked, (name, node.lineno))

    def test_L23_what_a_loop_walks_is_not_changed_in_it(self):
        changes = "append clear extend insert pop remove reverse setdefault update".split()
        for name, loop in nodes(ast.For):
            walked = [ast.unparse(part) for part in ast.walk(loop.iter) if isinstance(part, (ast.Name, ast.Attribute))]
            for node in [inner for part in loop.body for inner in ast.walk(part)]:
                if isinstance(node, ast.Call) and getattr(node.func, "attr", "") in changes:
                    self.assertNotIn(ast.unparse(node.func.value), walked, (name, node.lineno))
                if isinstance(node, ast.Subscript) and isinstance(node.ctx, ast.Store):
                    self.assertNotIn(ast.unparse(node.value), walked, (name, node.lineno))

    def test_L27_numbers_and_signs(self):
        self.assertEqual(nodes(ast.Pow), [])
        for path in files():
            self.assertNotIn("\\", path.read_text(), path)

    def test_L28_no_method_with_two_underscores_but_init(self):
        for name, node in nodes(ast.FunctionDef):
            if node.name.startswith("_"):
                self.assertEqual(node.name, "__init__", name)
                self.assertFalse([part for part in ast.walk(node) if isinstance(part, ast.Return)], name)


if __name__ == "__main__":
    unittest.main()
