"""The package keeps to the small part of Python that it is written in: rules L1 to L28, as far as a test can see."""

import ast
import builtins
import pathlib
import re
import sys
import unittest

PACKAGE = pathlib.Path(__file__).resolve().parent.parent / "classfiles"

STATEMENTS = (
    ast.Assign, ast.AugAssign, ast.If, ast.While, ast.For, ast.Return, ast.Break, ast.Continue, ast.Pass, ast.Raise,
    ast.Try, ast.Expr, ast.FunctionDef, ast.ClassDef, ast.ImportFrom,
)
EXPRESSIONS = (
    ast.Constant, ast.List, ast.Tuple, ast.Dict, ast.BinOp, ast.UnaryOp, ast.BoolOp, ast.Compare, ast.IfExp, ast.Call,
    ast.Attribute, ast.Subscript, ast.Slice, ast.Name, ast.ListComp, ast.JoinedStr, ast.FormattedValue,
)
OWN_NAMES = (
    "len range enumerate zip min max sum abs sorted reversed int str bool list tuple dict isinstance ord repr any all"
    " divmod Exception ValueError TypeError KeyError IndexError LookupError ZeroDivisionError ArithmeticError"
    " OverflowError RuntimeError NotImplementedError"
).split()
OWN_METHODS = (
    "append clear copy count endswith extend find get index insert isalnum isalpha isdigit islower isspace isupper"
    " items join keys ljust lower lstrip partition pop remove replace reverse rfind rjust rpartition rsplit rstrip"
    " setdefault split splitlines startswith strip update upper values zfill bit_length"
).split()
WORDS = (
    "type typing typing_extensions enum Enum IntEnum StrEnum Flag IntFlag Generic Protocol ABC ABCMeta namedtuple"
    " NamedTuple TypedDict TYPE_CHECKING abstractmethod"
).split()
NOT_USED = (
    "register mro elements open input version_info with_traceback add_note attrgetter breakpoint builtins compile"
    " copyright credits delattr dir eval exec exit gc getattr globals hasattr help id importlib license locals"
    " methodcaller os quit setattr super type vars sys format format_map"
).split()


def sources():
    return {path.stem: path.read_text("utf-8") for path in sorted(PACKAGE.glob("*.py"))}


def trees():
    return {name: ast.parse(text) for name, text in sources().items()}


def bound_at_top(tree):
    names = []
    for node in tree.body:
        if isinstance(node, (ast.FunctionDef, ast.ClassDef)):
            names.append(node.name)
        elif isinstance(node, ast.Assign):
            names.append(node.targets[0].id)
        elif isinstance(node, ast.ImportFrom):
            names.extend(alias.name for alias in node.names)
    return names


def defined(tree):
    imported = [alias.name for node in tree.body if isinstance(node, ast.ImportFrom) for alias in node.names]
    return [name for name in bound_at_top(tree) if name not in imported]


def local_names(tree):
    """Parameters and what functions assign."""
    names = []
    for function in ast.walk(tree):
        if isinstance(function, ast.FunctionDef):
            names.extend(arg.arg for arg in function.args.args)
            for node in ast.walk(function):
                if isinstance(node, ast.Name) and isinstance(node.ctx, ast.Store):
                    names.append(node.id)
                if isinstance(node, ast.ExceptHandler) and node.name:
                    names.append(node.name)
    return names


def is_plain(node, functions):
    if isinstance(node, ast.UnaryOp):
        return isinstance(node.op, ast.USub) and isinstance(node.operand, ast.Constant)
    if isinstance(node, ast.Constant):
        return node.value is None or isinstance(node.value, (int, str))
    if isinstance(node, ast.Name):
        return node.id in functions
    if isinstance(node, (ast.List, ast.Tuple)):
        return all(is_plain(part, functions) for part in node.elts)
    if isinstance(node, ast.Dict):
        return all(is_plain(part, functions) for part in node.keys + node.values)
    return False


class Files(unittest.TestCase):
    def test_nothing_else_lies_there(self):
        names = [path.name for path in PACKAGE.iterdir() if path.name != "__pycache__"]
        self.assertEqual([name for name in names if not re.fullmatch(r"[a-z0-9_]+\.py", name)], [])
        self.assertIn("__init__.py", names)
        taken = set(dir(builtins)) | set(sys.stdlib_module_names) | {"test", "tests", "testing", "site", "conftest"}
        self.assertEqual([name for name in names if name[:-3] in taken or name.startswith("test_")], [])

    def test_size_and_signs(self):
        for name, text in sources().items():
            rows = text.split("\n")
            self.assertLessEqual(len(rows), 400, name)
            self.assertLessEqual(max(len(row) for row in rows), 120, name)
            self.assertIsNone(re.search(r"[^ -~\n]", text), name)
            self.assertIsNone(re.search(r"dataclass|overload|contextmanager", text), name)
            self.assertEqual([word for word in WORDS if re.search(rf"\b{word}\b", text)], [], name)

    def test_imports(self):
        parsed = trees()
        drawn = {}
        for name, tree in parsed.items():
            drawn[name] = []
            for node in ast.walk(tree):
                if isinstance(node, (ast.Import, ast.ImportFrom)):
                    self.assertIn(node, tree.body)
                    self.assertIsInstance(node, ast.ImportFrom)
                    self.assertEqual([node.level, node.module.split(".")[0]], [0, "classfiles"])
                    source = node.module.split(".")[1]
                    drawn[name].append(source)
                    for alias in node.names:
                        self.assertIsNone(alias.asname)
                        self.assertIn(alias.name, defined(parsed[source]))
        self.assertEqual(drawn["__init__"], [])
        left = dict(drawn)
        while left:
            free = [name for name in left if not any(source in left for source in left[name])]
            self.assertTrue(free, left)
            left = {name: left[name] for name in left if name not in free}

    def test_imports_are_used(self):
        for name, tree in trees().items():
            used = {node.id for node in ast.walk(tree) if isinstance(node, ast.Name)}
            imported = set(bound_at_top(tree)) - set(defined(tree))
            self.assertEqual(imported - used, set(), name)


class Tops(unittest.TestCase):
    def test_what_stands_at_the_top(self):
        for name, tree in trees().items():
            self.assertTrue(ast.get_docstring(tree), name)
            functions = []
            for node in tree.body[1:]:
                self.assertIsInstance(node, (ast.ImportFrom, ast.FunctionDef, ast.ClassDef, ast.Assign), name)
                if isinstance(node, ast.FunctionDef):
                    functions.append(node.name)
                if isinstance(node, ast.Assign):
                    self.assertTrue(is_plain(node.value, functions), ast.unparse(node))
            names = bound_at_top(tree)
            self.assertEqual(len(names), len(set(names)), name)

    def test_classes(self):
        methods, values = set(), set()
        for name, tree in trees().items():
            for node in ast.walk(tree):
                if isinstance(node, ast.ClassDef):
                    self.assertIn(node, tree.body)
                    self.assertLessEqual(len(node.bases), 1)
                    self.assertEqual(node.decorator_list + node.keywords, [])
                    for part in node.body[1:]:
                        self.assertIsInstance(part, ast.FunctionDef)
                        methods.add(part.name)
                if isinstance(node, ast.Attribute) and isinstance(node.ctx, ast.Store):
                    self.assertIsInstance(node.value, ast.Name)
                    self.assertNotIn(node.value.id, bound_at_top(tree))
                    values.add(node.attr)
        self.assertEqual(methods & values, set())
        own = {word for kind in (str, int, list, dict, set, bytes, tuple) for word in dir(kind)}
        self.assertEqual((methods - {"__init__"}) & own, set())
        self.assertEqual(values & own, set())


class Functions(unittest.TestCase):
    def functions(self):
        for name, tree in trees().items():
            for node in ast.walk(tree):
                if isinstance(node, ast.FunctionDef):
                    yield name, node

    def test_form(self):
        for name, node in self.functions():
            self.assertLessEqual(node.end_lineno - node.lineno + 1, 40, node.name)
            args = node.args
            self.assertEqual([args.vararg, args.kwarg, args.kwonlyargs, args.posonlyargs], [None, None, [], []])
            self.assertEqual([node.decorator_list, node.returns], [[], None])
            self.assertEqual([arg for arg in args.args if arg.annotation], [])

    def test_no_function_calls_itself(self):
        for name, node in self.functions():
            called = {part.func.id for part in ast.walk(node) if isinstance(part, ast.Call) and
                      isinstance(part.func, ast.Name)}
            self.assertNotIn(node.name, called)

    def test_statements_and_expressions(self):
        for name, tree in trees().items():
            for node in ast.walk(tree):
                if isinstance(node, ast.stmt):
                    self.assertIsInstance(node, STATEMENTS, name)
                if isinstance(node, ast.expr):
                    self.assertIsInstance(node, EXPRESSIONS, name)
                if isinstance(node, ast.Assign):
                    self.assertEqual(len(node.targets), 1)
                if isinstance(node, (ast.For, ast.While)):
                    self.assertEqual(node.orelse, [])
                if isinstance(node, ast.Try):
                    self.assertEqual(node.finalbody, [])
                if isinstance(node, ast.BinOp):
                    self.assertNotIsInstance(node.op, (ast.Div, ast.Pow, ast.MatMult))
                if isinstance(node, ast.Constant):
                    self.assertNotIsInstance(node.value, (float, complex, bytes))
                    self.assertFalse(isinstance(node.value, str) and "%" in node.value)
                if isinstance(node, ast.Compare) and any(isinstance(op, (ast.Is, ast.IsNot)) for op in node.ops):
                    self.assertIsInstance(node.comparators[0], ast.Constant)
                if isinstance(node, ast.ListComp):
                    self.assertEqual([len(node.generators), len(node.generators[0].ifs) <= 1], [1, True])

    def test_calls_have_no_keywords(self):
        for name, tree in trees().items():
            for node in ast.walk(tree):
                if isinstance(node, ast.Call):
                    self.assertEqual(node.keywords, [], name)

    def test_walked_on_the_spot(self):
        for name, tree in trees().items():
            walked = [node.iter for node in ast.walk(tree) if isinstance(node, (ast.For, ast.comprehension))]
            for node in ast.walk(tree):
                if isinstance(node, ast.Call) and isinstance(node.func, ast.Name):
                    if node.func.id in ("range", "enumerate", "zip", "reversed"):
                        self.assertIn(node, walked)


class Names(unittest.TestCase):
    def test_python_s_own(self):
        for name, tree in trees().items():
            known = set(OWN_NAMES) | set(bound_at_top(tree)) | set(local_names(tree))
            for node in ast.walk(tree):
                if isinstance(node, ast.Name):
                    self.assertIn(node.id, known, name)
                    self.assertNotIn(node.id, NOT_USED, name)
                if isinstance(node, ast.Attribute):
                    self.assertNotIn(node.attr, NOT_USED, name)

    def test_locals_hide_nothing(self):
        for name, tree in trees().items():
            hidden = set(dir(builtins)) | set(bound_at_top(tree))
            self.assertEqual([word for word in local_names(tree) if word in hidden], [], name)

    def test_plain_words(self):
        for name, tree in trees().items():
            words = bound_at_top(tree) + local_names(tree)
            words += [node.attr for node in ast.walk(tree) if isinstance(node, ast.Attribute)]
            self.assertEqual([word for word in words if not re.fullmatch(r"[A-Za-z][A-Za-z0-9_]*", word)], [], name)

    def test_methods(self):
        parsed = trees()
        own = {part.name for tree in parsed.values() for node in tree.body if isinstance(node, ast.ClassDef)
               for part in node.body if isinstance(part, ast.FunctionDef)}
        for name, tree in parsed.items():
            for node in ast.walk(tree):
                if isinstance(node, ast.Call) and isinstance(node.func, ast.Attribute):
                    self.assertIn(node.func.attr, own | set(OWN_METHODS), name)

    def test_tops_are_only_read(self):
        for name, tree in trees().items():
            kept = [node.targets[0].id for node in tree.body
                    if isinstance(node, ast.Assign) and isinstance(node.value, (ast.List, ast.Dict))]
            read = []
            for node in ast.walk(tree):
                if isinstance(node, ast.Subscript) and isinstance(node.ctx, ast.Load):
                    read.append(node.value)
                if isinstance(node, ast.Compare):
                    read.extend(node.comparators)
                if isinstance(node, ast.Call) and isinstance(node.func, ast.Attribute) and node.func.attr == "get":
                    read.append(node.func.value)
            for node in ast.walk(tree):
                if isinstance(node, ast.Name) and isinstance(node.ctx, ast.Load) and node.id in kept:
                    self.assertIn(node, read, name)


if __name__ == "__main__":
    unittest.main()
