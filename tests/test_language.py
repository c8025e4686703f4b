"""The package keeps to the part of Python that it may use, as far as a reading of its files can tell."""

import ast
import builtins
import pathlib
import re
import unittest

FOLDER = pathlib.Path(__file__).resolve().parent.parent / "wholemint"
FILES = sorted(path for path in FOLDER.iterdir() if path.name != "__pycache__")

BUILT_IN = set("""len range enumerate zip min max sum abs sorted reversed int str bool list tuple dict set frozenset
isinstance ord repr any all divmod Exception ValueError TypeError KeyError IndexError LookupError ZeroDivisionError
ArithmeticError OverflowError RuntimeError NotImplementedError AttributeError StopIteration""".split())
OWN_OF_PYTHON = set(dir(builtins))
METHODS = set("""append clear copy count endswith extend find get index insert isalnum isalpha isdigit islower isspace
isupper items join keys ljust lower lstrip partition pop remove replace reverse rfind rjust rpartition rsplit rstrip
setdefault split splitlines startswith strip update upper values zfill bit_length""".split())
TWO_UNDERSCORES = {"__init__", "__eq__", "__repr__", "__str__", "__len__"}
NEVER = set("register mro elements open input version_info with_traceback add_note format format_map".split())
NOT_AS_NAMES = set("""attrgetter breakpoint builtins compile copyright credits delattr dir eval exec exit gc getattr
globals hasattr help id importlib license locals methodcaller os quit setattr super type vars sys""".split())
WORDS = re.compile(r"\b(type|typing|typing_extensions|enum|Enum|IntEnum|StrEnum|Flag|IntFlag|Generic|Protocol"
                   r"|ABC|ABCMeta|namedtuple|NamedTuple|TypedDict|TYPE_CHECKING|abstractmethod)\b"
                   r"|dataclass|overload|contextmanager")
STATEMENTS = (ast.Assign, ast.AugAssign, ast.If, ast.While, ast.For, ast.Return, ast.Break, ast.Continue, ast.Pass,
              ast.Raise, ast.Try, ast.Expr, ast.FunctionDef, ast.ClassDef, ast.ImportFrom)
AT_THE_TOP = (ast.Assign, ast.Expr, ast.FunctionDef, ast.ClassDef, ast.ImportFrom)
NOT_USED = (ast.Lambda, ast.GeneratorExp, ast.SetComp, ast.DictComp, ast.NamedExpr, ast.Starred, ast.Div, ast.Set,
            ast.Await, ast.Yield, ast.YieldFrom, ast.MatMult)


def text_of(path):
    return path.read_bytes().decode("ascii")


def tree_of(path):
    return ast.parse(text_of(path))


def nodes(kinds):
    """Each node of these kinds in the package, with a word on where it stands."""
    for path in FILES:
        for node in ast.walk(tree_of(path)):
            if isinstance(node, kinds):
                yield node, f"{path.name}:{getattr(node, 'lineno', 0)}"


def is_plain(node):
    if isinstance(node, ast.UnaryOp) and isinstance(node.op, ast.USub):
        return is_plain(node.operand)
    if isinstance(node, (ast.Tuple, ast.List)):
        return all(is_plain(part) for part in node.elts)
    return isinstance(node, ast.Constant) and (node.value is None or isinstance(node.value, (int, str)))


def drawn_from(path):
    return [f"{row.module.split('.')[-1]}.py" for row in tree_of(path).body if isinstance(row, ast.ImportFrom)]


class Files(unittest.TestCase):
    def test_plain_files(self):
        for path in FILES:
            self.assertRegex(path.name, r"^(__init__|[a-z][a-z0-9_]*)\.py$")
            text = text_of(path)
            self.assertRegex(text, r"\A[ -~\n]*\Z", path.name)
            self.assertIsNone(WORDS.search(text), path.name)
            self.assertLessEqual(len(text.splitlines()), 400, path.name)
            self.assertLessEqual(max(len(row) for row in text.splitlines()), 120, path.name)

    def test_tops(self):
        for path in FILES:
            bound = []
            for row in tree_of(path).body:
                self.assertIsInstance(row, AT_THE_TOP, f"{path.name}:{row.lineno}")
                if isinstance(row, ast.Assign):
                    self.assertTrue(is_plain(row.value), f"{path.name}:{row.lineno}")
                    bound.append(row.targets[0].id)
                if isinstance(row, (ast.FunctionDef, ast.ClassDef)):
                    bound.append(row.name)
                if isinstance(row, ast.ImportFrom):
                    bound += [name.name for name in row.names]
            self.assertEqual(len(bound), len(set(bound)), path.name)

    def test_imports(self):
        for row, where in nodes((ast.Import, ast.ImportFrom)):
            self.assertIsInstance(row, ast.ImportFrom, where)
            self.assertEqual(row.level, 0, where)
            self.assertTrue(row.module.startswith("wholemint."), where)
            defined = [part.name for part in tree_of(FOLDER / f"{row.module.split('.')[1]}.py").body
                       if isinstance(part, (ast.FunctionDef, ast.ClassDef))]
            defined += [part.targets[0].id for part in tree_of(FOLDER / f"{row.module.split('.')[1]}.py").body
                        if isinstance(part, ast.Assign)]
            for name in row.names:
                self.assertIn(name.name, defined, where)
                self.assertIsNone(name.asname, where)

    def test_no_two_files_draw_from_one_another(self):
        left = {path.name: drawn_from(path) for path in FILES}
        while left:
            free = [name for name in left if not any(other in left for other in left[name])]
            self.assertTrue(free, left)
            left = {name: left[name] for name in left if name not in free}


class Statements(unittest.TestCase):
    def test_statements(self):
        for node, where in nodes(ast.stmt):
            self.assertIsInstance(node, STATEMENTS, where)
            if isinstance(node, ast.Assign):
                self.assertEqual(len(node.targets), 1, where)
                self.assertNotIsInstance(node.targets[0], (ast.Tuple, ast.List), where)
            if isinstance(node, (ast.While, ast.For)):
                self.assertEqual(node.orelse, [], where)

    def test_expressions(self):
        for node, where in nodes(NOT_USED):
            self.fail(f"{where} {node}")
        for node, where in nodes(ast.Constant):
            self.assertIsInstance(node.value, (int, str, bool, None.__class__), where)
            self.assertNotIn("%", str(node.value), where)
        for node, where in nodes(ast.ListComp):
            self.assertEqual(len(node.generators), 1, where)
            self.assertLessEqual(len(node.generators[0].ifs), 1, where)
        for node, where in nodes(ast.Compare):
            for operator, other in zip(node.ops, node.comparators):
                if isinstance(operator, (ast.Is, ast.IsNot)):
                    self.assertIsInstance(other, ast.Constant, where)

    def test_functions(self):
        for node, where in nodes(ast.FunctionDef):
            self.assertLessEqual(node.end_lineno - node.lineno + 1, 40, where)
            self.assertEqual(node.decorator_list, [], where)
            self.assertIsNone(node.args.vararg or node.args.kwarg or node.returns, where)
            self.assertEqual(node.args.kwonlyargs + node.args.posonlyargs, [], where)
            self.assertTrue(all(argument.annotation is None for argument in node.args.args), where)

    def test_classes(self):
        for node, where in nodes(ast.ClassDef):
            self.assertEqual(node.decorator_list + node.bases + node.keywords, [], where)
            for part in node.body[1:]:
                self.assertIsInstance(part, ast.FunctionDef, where)


class Names(unittest.TestCase):
    def test_names(self):
        for node, where in nodes(ast.Name):
            self.assertRegex(node.id, r"^[A-Za-z][A-Za-z0-9_]*$", where)
            self.assertNotIn(node.id, NEVER | NOT_AS_NAMES, where)
            if node.id in OWN_OF_PYTHON:
                self.assertIn(node.id, BUILT_IN, where)
                self.assertIsInstance(node.ctx, ast.Load, where)
        for node, where in nodes((ast.arg, ast.FunctionDef)):
            name = node.arg if isinstance(node, ast.arg) else node.name
            self.assertNotIn(name, OWN_OF_PYTHON | NEVER | NOT_AS_NAMES, where)
            if name not in TWO_UNDERSCORES:
                self.assertRegex(name, r"^[A-Za-z][A-Za-z0-9_]*$", where)

    def test_locals_are_not_called_like_imports_or_classes(self):
        for path in FILES:
            tree = tree_of(path)
            taken = [name.name for row in tree.body if isinstance(row, ast.ImportFrom) for name in row.names]
            taken += [row.name for row in tree.body if isinstance(row, (ast.ClassDef, ast.FunctionDef))]
            for node in ast.walk(tree):
                if isinstance(node, ast.arg):
                    self.assertNotIn(node.arg, taken, path.name)
                if isinstance(node, ast.Name) and isinstance(node.ctx, ast.Store):
                    self.assertNotIn(node.id, taken, path.name)

    def test_methods_and_values(self):
        own = {node.name for kept, where in nodes(ast.ClassDef) for node in kept.body
               if isinstance(node, ast.FunctionDef)}
        stored = {node.attr for node, where in nodes(ast.Attribute) if isinstance(node.ctx, ast.Store)}
        pythons = {name for made in ("", 0, [], {}, set(), b"") for name in dir(made)}
        self.assertEqual(own & stored, set())
        self.assertEqual((own - TWO_UNDERSCORES | stored) & (pythons | NEVER), set())
        for node, where in nodes(ast.Attribute):
            self.assertIn(node.attr, own | stored | METHODS, where)
