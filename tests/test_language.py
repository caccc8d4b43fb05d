"""The package keeps to the rules of LANGUAGE.md, as far as a rule can be seen in the text."""

import ast
import builtins
import re
import unittest
from pathlib import Path

PACKAGE = Path(__file__).resolve().parent.parent / "buildingexits"
FILES = sorted(PACKAGE.rglob("*.py"))

STATEMENTS = (
    ast.FunctionDef, ast.ClassDef, ast.ImportFrom, ast.Assign, ast.AugAssign, ast.If, ast.While, ast.For,
    ast.Return, ast.Break, ast.Continue, ast.Pass, ast.Raise, ast.Try, ast.Expr,
)
LEFT_OUT = (
    ast.Set, ast.SetComp, ast.DictComp, ast.GeneratorExp, ast.NamedExpr, ast.Starred, ast.Await, ast.Yield,
    ast.YieldFrom, ast.Div, ast.MatMult,
)
BUILT_IN = set(
    "len range enumerate zip min max sum abs sorted reversed int str bool list tuple dict set frozenset isinstance "
    "ord repr any all divmod Exception ValueError KeyError IndexError LookupError ZeroDivisionError".split()
)
METHODS = set(
    "append clear copy count endswith extend find get index insert isalnum isalpha isdigit islower isspace isupper "
    "items join keys ljust lower lstrip partition pop remove replace reverse rfind rjust rpartition rsplit rstrip "
    "setdefault split splitlines startswith strip update upper values zfill bit_length".split()
)
WORDS = (
    r"\b(type|typing|typing_extensions|enum|Enum|IntEnum|StrEnum|Flag|IntFlag|Generic|Protocol|ABC|ABCMeta|"
    r"namedtuple|NamedTuple|TypedDict|TYPE_CHECKING|abstractmethod)\b|dataclass|overload|contextmanager"
)
UNUSED = set(
    "register mro elements open input version_info with_traceback add_note attrgetter breakpoint builtins compile "
    "copyright credits delattr dir eval exec exit gc getattr globals hasattr help id importlib license locals "
    "methodcaller os quit setattr super type vars sys".split()
)


NOT_AS_ATTRIBUTES = UNUSED | set(
    "format format_map args encode f_back tb_next co_names sort".split()
)
LAZY = ("zip", "enumerate", "reversed", "range")
WALKED_AT_ONCE_IN = ("list", "tuple", "dict", "sorted", "sum", "any", "all", "enumerate", "zip", "min", "max")
KEYWORDS = {"sorted": {"key", "reverse"}, "min": {"key", "default"}, "max": {"key", "default"},
            "sum": {"start"}, "enumerate": {"start"}, "zip": {"strict"}}


def nodes(path):
    return ast.walk(ast.parse(path.read_text(encoding="utf-8")))


def bound_names(tree):
    """Every name that a file gives a meaning: defs, classes, parameters, locals and imports."""
    found = set()
    for node in ast.walk(tree):
        if isinstance(node, (ast.FunctionDef, ast.ClassDef)):
            found.add(node.name)
        elif isinstance(node, ast.arg):
            found.add(node.arg)
        elif isinstance(node, ast.alias):
            found.add(node.asname or node.name)
        elif isinstance(node, ast.Name) and isinstance(node.ctx, ast.Store):
            found.add(node.id)
    return found


class TestFiles(unittest.TestCase):
    def test_plain_files_alone(self):
        self.assertIn(PACKAGE / "planner.py", FILES)
        for path in PACKAGE.rglob("*"):
            if "__pycache__" not in path.parts:
                self.assertRegex(path.name, r"^[a-z0-9_]+\.py$")

    def test_sizes_and_signs(self):
        for path in FILES:
            text = path.read_text(encoding="utf-8")
            self.assertRegex(text, r"\A[ -~\n]*\Z", path.name)
            self.assertLess(len(text.splitlines()), 400, path.name)
            self.assertLessEqual(max(map(len, text.splitlines())), 120, path.name)

    def test_words_that_stand_nowhere(self):
        for path in FILES:
            self.assertIsNone(re.search(WORDS, path.read_text(encoding="utf-8")), path.name)

    def test_imports(self):
        drawn = {}
        for path in FILES:
            drawn[path.stem] = set()
            for node in nodes(path):
                if isinstance(node, ast.ImportFrom):
                    self.assertRegex(node.module, r"^buildingexits\.\w+$")
                    self.assertEqual((node.level, [name.asname for name in node.names if name.asname]), (0, []))
                    drawn[path.stem].add(node.module.split(".")[1])
        while drawn:
            ready = [name for name in drawn if not drawn[name] & set(drawn)]
            self.assertTrue(ready, f"files that draw from one another: {sorted(drawn)}")
            drawn = {name: drawn[name] for name in drawn if name not in ready}


class TestNodes(unittest.TestCase):
    def test_statements_and_expressions(self):
        for path in FILES:
            for node in nodes(path):
                where = (path.name, getattr(node, "lineno", 0))
                if isinstance(node, ast.stmt):
                    self.assertIsInstance(node, STATEMENTS, where)
                self.assertNotIsInstance(node, LEFT_OUT, where)
                if isinstance(node, ast.Constant):
                    self.assertNotIsInstance(node.value, (float, bytes, complex), where)
                if isinstance(node, ast.Assign):
                    self.assertEqual(len(node.targets), 1, where)
                if isinstance(node, (ast.For, ast.While)):
                    self.assertEqual(node.orelse, [], where)
                if isinstance(node, ast.ListComp):
                    self.assertEqual(len(node.generators), 1, where)
                    self.assertLessEqual(len(node.generators[0].ifs), 1, where)

    def test_functions(self):
        for path in FILES:
            for node in nodes(path):
                if isinstance(node, ast.FunctionDef):
                    where = (path.name, node.name)
                    self.assertLessEqual(node.end_lineno - node.lineno + 1, 40, where)
                    self.assertEqual(node.decorator_list, [], where)
                    plain = node.args
                    self.assertFalse(plain.vararg or plain.kwarg or plain.kwonlyargs or plain.posonlyargs, where)

    def test_names(self):
        for path in FILES:
            tree = ast.parse(path.read_text(encoding="utf-8"))
            bound = bound_names(tree)
            for name in bound - {"__init__"}:
                self.assertRegex(name, r"^[A-Za-z][A-Za-z0-9_]*$", path.name)
                self.assertNotIn(name, BUILT_IN | UNUSED | set(dir(builtins)), path.name)
            for node in ast.walk(tree):
                if isinstance(node, ast.Name) and isinstance(node.ctx, ast.Load):
                    self.assertIn(node.id, bound | BUILT_IN, path.name)

    def test_methods(self):
        for path in FILES:
            for node in nodes(path):
                if isinstance(node, ast.Call) and isinstance(node.func, ast.Attribute):
                    self.assertIn(node.func.attr, METHODS, (path.name, node.lineno))

    def test_names_of_a_files_top_are_bound_once(self):
        for path in FILES:
            names = []
            for node in ast.parse(path.read_text(encoding="utf-8")).body:
                if isinstance(node, (ast.FunctionDef, ast.ClassDef)):
                    names.append(node.name)
                elif isinstance(node, ast.ImportFrom):
                    names.extend([name.name for name in node.names])
                elif isinstance(node, ast.Assign):
                    names.extend([target.id for target in node.targets])
                else:
                    self.assertIsInstance(node, ast.Expr)
            self.assertEqual(len(names), len(set(names)), path.name)

    def test_nothing_is_done_at_a_files_top(self):
        for path in FILES:
            tree = ast.parse(path.read_text(encoding="utf-8"))
            self.assertIsNotNone(ast.get_docstring(tree), path.name)
            for node in tree.body[1:]:
                self.assertIsInstance(node, (ast.FunctionDef, ast.ClassDef, ast.ImportFrom, ast.Assign), path.name)
                if isinstance(node, ast.Assign):
                    self.assertNotIsInstance(node.value, (ast.Call, ast.ListComp), path.name)

    def test_no_annotation_and_no_default(self):
        for path in FILES:
            for node in nodes(path):
                self.assertNotIsInstance(node, ast.AnnAssign, path.name)
                if isinstance(node, ast.FunctionDef):
                    self.assertIsNone(node.returns, node.name)
                    self.assertEqual([plain.arg for plain in node.args.args if plain.annotation], [], node.name)
                    self.assertEqual(node.args.defaults, [], node.name)

    def test_is_stands_beside_none_true_and_false_alone(self):
        for path in FILES:
            for node in nodes(path):
                if isinstance(node, ast.Compare) and isinstance(node.ops[0], (ast.Is, ast.IsNot)):
                    self.assertIsInstance(node.comparators[0], ast.Constant, (path.name, node.lineno))
                    self.assertIn(node.comparators[0].value, (None, True, False), (path.name, node.lineno))

    def test_classes_are_plain(self):
        for path in FILES:
            for node in nodes(path):
                if isinstance(node, ast.ClassDef):
                    self.assertEqual((node.bases, node.keywords, node.decorator_list), ([], [], []), node.name)
                    for inner in node.body[1:]:
                        self.assertIsInstance(inner, ast.FunctionDef, node.name)

    def test_values_of_objects(self):
        own = set(dir(str) + dir(int) + dir(list) + dir(dict) + dir(set) + dir(bytes) + dir(tuple))
        for path in FILES:
            for node in nodes(path):
                if isinstance(node, ast.Attribute):
                    where = (path.name, node.attr, node.lineno)
                    self.assertNotIn(node.attr, NOT_AS_ATTRIBUTES, where)
                    if isinstance(node.ctx, ast.Store):
                        self.assertNotIn(node.attr, own, where)

    def test_no_local_is_called_like_an_import_or_a_class(self):
        for path in FILES:
            tree = ast.parse(path.read_text(encoding="utf-8"))
            at_top = {node.name for node in tree.body if isinstance(node, ast.ClassDef)}
            for node in tree.body:
                if isinstance(node, ast.ImportFrom):
                    at_top.update(name.name for name in node.names)
            for node in ast.walk(tree):
                if isinstance(node, ast.arg):
                    self.assertNotIn(node.arg, at_top, path.name)
                elif isinstance(node, ast.Name) and isinstance(node.ctx, ast.Store):
                    self.assertNotIn(node.id, at_top, path.name)

    def test_what_is_lazy_is_walked_at_once(self):
        for path in FILES:
            lazy, walked = [], []
            for node in nodes(path):
                if isinstance(node, (ast.For, ast.comprehension)):
                    walked.append(node.iter)
                elif isinstance(node, ast.Call) and isinstance(node.func, ast.Name):
                    if node.func.id in LAZY:
                        lazy.append(node)
                    if node.func.id in WALKED_AT_ONCE_IN:
                        walked.extend(node.args[:1])
            for node in lazy:
                self.assertTrue(any(node is place for place in walked), (path.name, node.lineno))

    def test_keywords(self):
        for path in FILES:
            for node in nodes(path):
                if isinstance(node, ast.Call) and node.keywords:
                    allowed = KEYWORDS.get(getattr(node.func, "id", ""), set())
                    self.assertLessEqual({word.arg for word in node.keywords}, allowed, (path.name, node.lineno))

    def test_powers_have_a_written_exponent(self):
        for path in FILES:
            for node in nodes(path):
                if isinstance(node, ast.BinOp) and isinstance(node.op, ast.Pow):
                    self.assertIsInstance(node.right, ast.Constant, (path.name, node.lineno))


class TestThePackage(unittest.TestCase):
    def test_answers_stands_in_planner_alone(self):
        for path in FILES:
            names = [node.name for node in ast.parse(path.read_text(encoding="utf-8")).body
                     if isinstance(node, (ast.FunctionDef, ast.ClassDef))]
            self.assertEqual("answers" in names, path.name == "planner.py", path.name)

    def test_no_name_is_a_method_and_a_value(self):
        methods, values = set(), set()
        for path in FILES:
            for node in nodes(path):
                if isinstance(node, ast.ClassDef):
                    methods.update(inner.name for inner in node.body if isinstance(inner, ast.FunctionDef))
                elif isinstance(node, ast.Attribute) and isinstance(node.ctx, ast.Store):
                    values.add(node.attr)
        self.assertEqual(methods & values, set())


if __name__ == "__main__":
    unittest.main()
