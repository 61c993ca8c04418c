"""The form of the package's own files: the rules of LANGUAGE.md that can be seen in the code alone."""

import ast
import builtins
import pathlib
import re
import unittest

PACKAGE = pathlib.Path(__file__).resolve().parent.parent / "fullshelves"
FILES = sorted(path for path in PACKAGE.rglob("*") if path.is_file() and "__pycache__" not in path.parts)
TREES = {path: ast.parse(path.read_text("ascii")) for path in FILES if path.suffix == ".py"}

BUILTINS = set(
    "len range enumerate zip min max sum abs sorted reversed int str bool list tuple dict set frozenset isinstance"
    " ord repr any all divmod Exception ValueError TypeError KeyError IndexError LookupError ZeroDivisionError"
    " ArithmeticError OverflowError RuntimeError NotImplementedError AttributeError StopIteration".split()
)
METHODS = set(
    "append clear copy count endswith extend find get index insert isalnum isalpha isdigit islower isspace isupper"
    " items join keys ljust lower lstrip partition pop remove replace reverse rfind rjust rpartition rsplit rstrip"
    " setdefault split splitlines startswith strip update upper values zfill bit_length".split()
)
# L17: names and words that are not used.
BARRED = set(
    "register mro elements open input version_info with_traceback add_note attrgetter breakpoint builtins compile"
    " copyright credits delattr dir eval exec exit gc getattr globals hasattr help id importlib license locals"
    " methodcaller os quit setattr super type vars sys typing typing_extensions enum Enum IntEnum StrEnum Flag"
    " IntFlag Generic Protocol ABC ABCMeta namedtuple NamedTuple TypedDict TYPE_CHECKING abstractmethod format"
    " format_map chr print".split()
)
STATEMENTS = (
    ast.FunctionDef, ast.ClassDef, ast.Assign, ast.AugAssign, ast.If, ast.While, ast.For, ast.Return, ast.Break,
    ast.Continue, ast.Pass, ast.Raise, ast.Try, ast.Expr, ast.ImportFrom,
)
EXPRESSIONS = (
    ast.Name, ast.Constant, ast.BinOp, ast.UnaryOp, ast.BoolOp, ast.Compare, ast.IfExp, ast.Call, ast.Attribute,
    ast.Subscript, ast.Slice, ast.ListComp, ast.List, ast.Tuple, ast.Dict, ast.Lambda, ast.JoinedStr,
    ast.FormattedValue,
)
PLAIN_NAME = re.compile(r"[A-Za-z][A-Za-z0-9_]*\Z")
WALKED = ("zip", "enumerate", "reversed", "range")


def nodes(kinds):
    return [(path.name, node) for path, tree in TREES.items() for node in ast.walk(tree) if isinstance(node, kinds)]


def top_names(tree):
    names = []
    for node in tree.body:
        if isinstance(node, (ast.FunctionDef, ast.ClassDef)):
            names.append(node.name)
        elif isinstance(node, ast.Assign):
            names += [target.id for target in node.targets]
    return names


def bound_names(tree):
    """Parameters and locals."""
    names = [node.arg for node in ast.walk(tree) if isinstance(node, ast.arg)]
    names += [node.name for node in ast.walk(tree) if isinstance(node, ast.ExceptHandler) and node.name]
    for function in [node for node in ast.walk(tree) if isinstance(node, ast.FunctionDef)]:
        names += [
            node.id for node in ast.walk(function) if isinstance(node, ast.Name) and isinstance(node.ctx, ast.Store)
        ]
    return names


def imported(tree):
    return [(node.module, alias) for node in tree.body if isinstance(node, ast.ImportFrom) for alias in node.names]


def own_methods():
    return {part.name for name, node in nodes(ast.ClassDef) for part in node.body if isinstance(part, ast.FunctionDef)}


def own_values():
    return {node.attr for name, node in nodes(ast.Attribute) if isinstance(node.ctx, ast.Store)}


class Files(unittest.TestCase):
    def test_files(self):
        self.assertIn("__init__.py", [path.name for path in FILES])
        for path in FILES:
            self.assertRegex(path.name, r"\A([a-z][a-z0-9_]*|__init__|__main__)\.py\Z")
            self.assertNotIn(path.stem, dir(builtins))
            self.assertFalse(path.stem.startswith("test"))

    def test_sizes_and_signs(self):
        for path in FILES:
            text = path.read_bytes().decode("ascii")
            self.assertRegex(text, r"\A[ -~\n]*\Z")
            lines = text.split("\n")
            self.assertLessEqual(len(lines), 399, path.name)
            self.assertLessEqual(max(len(line) for line in lines), 120, path.name)
        for name, node in nodes(ast.FunctionDef):
            self.assertLessEqual(node.end_lineno - node.lineno + 1, 40, (name, node.name))

    def test_imports(self):
        drawn = {}
        for path, tree in TREES.items():
            drawn[path.stem] = set()
            for module, alias in imported(tree):
                package, stem = module.split(".")
                self.assertEqual("fullshelves", package)
                self.assertIsNone(alias.asname)
                self.assertIn(alias.name, top_names(TREES[PACKAGE / (stem + ".py")]))
                drawn[path.stem].add(stem)
        while drawn:
            free = [stem for stem in drawn if not drawn[stem] & set(drawn)]
            self.assertNotEqual([], free, "files that draw from one another")
            drawn = {stem: drawn[stem] for stem in drawn if stem not in free}

    def test_the_top_of_a_file(self):
        for path, tree in TREES.items():
            self.assertIsNotNone(ast.get_docstring(tree), path.name)
            for node in tree.body[1:]:
                self.assertIsInstance(node, (ast.ImportFrom, ast.FunctionDef, ast.ClassDef, ast.Assign), path.name)
                if isinstance(node, ast.Assign):
                    ast.literal_eval(node.value)
            names = top_names(tree) + [alias.name for module, alias in imported(tree)]
            self.assertEqual(len(names), len(set(names)), path.name)

    def test_the_interface_stands_where_its_name_tells(self):
        for path, tree in TREES.items():
            self.assertEqual(path.name == "session.py", "answers" in top_names(tree))


class Code(unittest.TestCase):
    def test_statements(self):
        for name, node in nodes(ast.stmt):
            self.assertIsInstance(node, STATEMENTS, (name, node.lineno))
            if isinstance(node, ast.Assign):
                self.assertEqual(1, len(node.targets))
            if isinstance(node, (ast.For, ast.While)):
                self.assertEqual([], node.orelse)
            if isinstance(node, ast.Try):
                self.assertEqual([], node.finalbody)
            if isinstance(node, ast.Expr):
                self.assertIsInstance(node.value, (ast.Call, ast.Constant), (name, node.lineno))

    def test_expressions(self):
        for name, node in nodes(ast.expr):
            self.assertIsInstance(node, EXPRESSIONS, (name, node.lineno))
            if isinstance(node, ast.Constant):
                self.assertIn(type(node.value), (int, str, bool, type(None)))
            if isinstance(node, ast.BinOp):
                self.assertNotIsInstance(node.op, (ast.Div, ast.MatMult, ast.Pow))
            if isinstance(node, ast.ListComp):
                self.assertEqual(1, len(node.generators))
                self.assertLessEqual(len(node.generators[0].ifs), 1)
            if isinstance(node, ast.Compare):
                for sign, right in zip(node.ops, node.comparators):
                    if isinstance(sign, (ast.Is, ast.IsNot)):
                        self.assertIn(getattr(right, "value", "other"), (None, True, False))
            if isinstance(node, ast.Constant) and isinstance(node.value, str):
                self.assertNotIn("%", node.value)

    def test_functions_and_classes(self):
        for name, node in nodes(ast.FunctionDef):
            given = node.args
            self.assertEqual([], node.decorator_list)
            self.assertEqual([], given.posonlyargs + given.kwonlyargs + given.defaults)
            self.assertIsNone(given.vararg or given.kwarg or node.returns)
            self.assertTrue(all(arg.annotation is None for arg in given.args))
            self.assertIsNotNone(ast.get_docstring(node) or node.name == "__init__" or None, (name, node.name))
        for name, node in nodes(ast.ClassDef):
            self.assertEqual([], node.decorator_list + node.keywords)
            self.assertLessEqual(len(node.bases), 1)
            self.assertIsNotNone(ast.get_docstring(node))
            self.assertTrue(all(isinstance(part, ast.FunctionDef) for part in node.body[1:]))
            methods = [part.name for part in node.body[1:]]
            self.assertEqual(len(methods), len(set(methods)))

    def test_names(self):
        for path, tree in TREES.items():
            known = set(top_names(tree)) | {alias.name for module, alias in imported(tree)} | set(bound_names(tree))
            taken = {alias.name for module, alias in imported(tree)}
            taken |= {node.name for node in tree.body if isinstance(node, ast.ClassDef)} | set(dir(builtins))
            for name in bound_names(tree) + top_names(tree):
                self.assertRegex(name, PLAIN_NAME)
                self.assertNotIn(name, BARRED)
            self.assertEqual(set(), set(bound_names(tree)) & taken, path.name)
            self.assertEqual(set(), set(top_names(tree)) & set(dir(builtins)), path.name)
            for node in ast.walk(tree):
                if isinstance(node, ast.Name):
                    self.assertIn(node.id, known | BUILTINS, (path.name, node.lineno))
                    self.assertNotIn(node.id, BARRED)

    def test_methods_and_values(self):
        methods, values = own_methods(), own_values()
        self.assertEqual(set(), methods & values)
        pythons = set(dir(str) + dir(int) + dir(list) + dir(dict) + dir(set) + dir(bytes) + dir(tuple))
        self.assertEqual(set(), (methods | values) & pythons - {"__init__"})
        for name, node in nodes(ast.Attribute):
            self.assertNotIn(node.attr, BARRED)
            self.assertIn(node.attr, methods | values | METHODS, (name, node.lineno))
        for name in methods - {"__init__"}:
            self.assertRegex(name, PLAIN_NAME)

    def test_calls(self):
        allowed = {"sorted": {"key", "reverse"}, "enumerate": {"start"}, "min": {"key"}, "max": {"key"}}
        for name, node in nodes(ast.Call):
            called = node.func.id if isinstance(node.func, ast.Name) else None
            self.assertLessEqual({part.arg for part in node.keywords}, allowed.get(called, set()), (name, node.lineno))

    def test_what_is_walked_at_once(self):
        walked = [node.iter for name, node in nodes((ast.For, ast.comprehension))]
        for name, node in nodes(ast.Call):
            if isinstance(node.func, ast.Name) and node.func.id in WALKED:
                self.assertIn(node, walked, (name, node.lineno))
        self.assertEqual([], [node for name, node in nodes(ast.Name) if node.id in ("set", "frozenset")])

    def test_errors_are_the_programs_own(self):
        raised = [node.exc for name, node in nodes(ast.Raise)]
        classes = {node.name for name, node in nodes(ast.ClassDef)}
        for error in raised:
            self.assertIsInstance(error, ast.Call)
            self.assertIn(error.func.id, classes)
        for name, node in nodes(ast.ExceptHandler):
            self.assertIn(node.type.id, classes)


if __name__ == "__main__":
    unittest.main()
