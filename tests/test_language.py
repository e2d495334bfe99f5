"""The package's files keep to the small part of Python that was agreed on."""

import ast
import builtins
import re
import unittest
from pathlib import Path

PACKAGE = Path(__file__).resolve().parent.parent / "headplaces"

STATEMENTS = (ast.Assign, ast.AugAssign, ast.If, ast.While, ast.For, ast.Return, ast.Break, ast.Continue, ast.Pass,
              ast.Raise, ast.Try, ast.Expr, ast.FunctionDef, ast.ClassDef, ast.ImportFrom)
EXPRESSIONS = (ast.Constant, ast.List, ast.Tuple, ast.Dict, ast.Set, ast.BinOp, ast.UnaryOp, ast.BoolOp, ast.Compare,
               ast.IfExp, ast.Call, ast.Attribute, ast.Subscript, ast.Slice, ast.ListComp, ast.JoinedStr,
               ast.FormattedValue, ast.Name, ast.Lambda)
OWN_NAMES = set("len range enumerate zip min max sum abs sorted reversed int str bool list tuple dict set frozenset"
                " isinstance ord repr any all divmod Exception ValueError TypeError KeyError IndexError LookupError"
                " ZeroDivisionError ArithmeticError OverflowError RuntimeError NotImplementedError AttributeError"
                " StopIteration".split())
OWN_METHODS = set("append clear copy count endswith extend find get index insert isalnum isalpha isdigit islower"
                  " isspace isupper items join keys ljust lower lstrip partition pop remove replace reverse rfind rjust"
                  " rpartition rsplit rstrip setdefault split splitlines startswith strip update upper values zfill"
                  " bit_length".split())
NOT_AS_NAMES = set("attrgetter breakpoint builtins compile copyright credits delattr dir eval exec exit gc getattr"
                   " globals hasattr help id importlib license locals methodcaller os quit setattr super type vars sys"
                   " __name__".split())
KEYWORDS = {"sorted": {"key", "reverse"}, "min": {"key", "default"}, "max": {"key", "default"}, "sum": {"start"},
            "enumerate": {"start"}, "zip": {"strict"}}
CHANGING = {"append", "clear", "extend", "insert", "pop", "remove", "reverse", "setdefault", "update"}
SPECIAL_METHODS = {"__init__", "__eq__", "__repr__", "__str__", "__len__"}
WALKED_AT_ONCE = {"zip", "enumerate", "reversed", "range"}
WORDS = re.compile(r"\b(type|typing|typing_extensions|enum|Enum|IntEnum|StrEnum|Flag|IntFlag|Generic|Protocol|ABC"
                   r"|ABCMeta|namedtuple|NamedTuple|TypedDict|TYPE_CHECKING|abstractmethod|register|mro|elements|open"
                   r"|input|version_info|with_traceback|add_note|eval|exec|getattr|setattr|globals|locals|chr)\b"
                   r"|dataclass|overload|contextmanager")


def files():
    return sorted(PACKAGE.glob("*.py"))


def trees():
    return [(path, ast.parse(path.read_text())) for path in files()]


def nodes(*kinds):
    return [(path.name, node) for path, tree in trees() for node in ast.walk(tree) if isinstance(node, kinds)]


def targets(node):
    return node.targets if isinstance(node, ast.Assign) else [node.target]


def bound_names():
    """Every name that is bound, with the file and line where it is."""
    found = []
    for path, node in nodes(ast.Name, ast.arg, ast.FunctionDef, ast.ClassDef, ast.Attribute):
        if isinstance(node, ast.arg):
            found.append((path, node.lineno, node.arg))
        elif isinstance(node, (ast.FunctionDef, ast.ClassDef)):
            found.append((path, node.lineno, node.name))
        elif isinstance(node.ctx, ast.Store):
            found.append((path, node.lineno, node.id if isinstance(node, ast.Name) else node.attr))
    return found


class FilesTest(unittest.TestCase):
    def test_plain_files_alone(self):
        for path in PACKAGE.iterdir():
            if path.name != "__pycache__":
                self.assertRegex(path.name, r"\A([a-z][a-z0-9_]*|__init__|__main__)\.py\Z")
                self.assertTrue(path.stem == "__init__" or not hasattr(builtins, path.stem), path)
        self.assertTrue((PACKAGE / "__init__.py").is_file())

    def test_signs_and_sizes(self):
        for path in files():
            text = path.read_text()
            self.assertRegex(text, r"\A[ -~\n]*\Z", path)
            rows = text.split("\n")
            self.assertLessEqual(len(rows), 401, path)
            self.assertLessEqual(max(len(row) for row in rows), 120, path)
            self.assertIsNone(WORDS.search(text), path)

    def test_functions_are_short(self):
        for path, node in nodes(ast.FunctionDef):
            self.assertLessEqual(node.end_lineno - node.lineno + 1, 40, (path, node.name))


class FormTest(unittest.TestCase):
    def test_statements(self):
        for path, node in nodes(ast.stmt):
            self.assertIsInstance(node, STATEMENTS, (path, node.lineno))
        for path, node in nodes(ast.For, ast.While):
            self.assertEqual(node.orelse, [], (path, node.lineno))
        for path, node in nodes(ast.Assign):
            self.assertEqual(len(node.targets), 1, (path, node.lineno))

    def test_expressions(self):
        for path, node in nodes(ast.expr):
            self.assertIsInstance(node, EXPRESSIONS, (path, node.lineno))
        for path, node in nodes(ast.Constant):
            self.assertIn(type(node.value), (int, str, bool, type(None)), (path, node.lineno))
            if isinstance(node.value, str):
                self.assertNotIn("%", node.value, (path, node.lineno))
        for path, node in nodes(ast.BinOp, ast.AugAssign):
            self.assertNotIsInstance(node.op, (ast.Div, ast.MatMult, ast.Pow), (path, node.lineno))
        for path, node in nodes(ast.ListComp):
            self.assertEqual(len(node.generators), 1, (path, node.lineno))
            self.assertLessEqual(len(node.generators[0].ifs), 1, (path, node.lineno))
        for path, node in nodes(ast.FormattedValue):
            self.assertIsInstance(node.value, ast.Name, path)

    def test_is_stands_beside_none_true_and_false(self):
        for path, node in nodes(ast.Compare):
            for operator, right in zip(node.ops, node.comparators):
                if isinstance(operator, (ast.Is, ast.IsNot)):
                    self.assertTrue(isinstance(right, ast.Constant) and right.value in (None, True, False), path)

    def test_functions_and_classes_are_plain(self):
        for path, node in nodes(ast.FunctionDef):
            told = node.args
            self.assertFalse(told.vararg or told.kwarg or told.kwonlyargs or told.posonlyargs, (path, node.name))
            self.assertEqual(node.decorator_list, [], (path, node.name))
        for path, node in nodes(ast.ClassDef):
            self.assertEqual((node.decorator_list, node.keywords), ([], []), (path, node.name))
            self.assertLessEqual(len(node.bases), 1, (path, node.name))
            for inner in node.body:
                self.assertIsInstance(inner, (ast.FunctionDef, ast.Pass), (path, node.name))

    def test_top_of_each_file(self):
        for path, tree in trees():
            self.assertIsNotNone(ast.get_docstring(tree), path)
            names = []
            for node in tree.body[1:]:
                self.assertIsInstance(node, (ast.ImportFrom, ast.Assign, ast.FunctionDef, ast.ClassDef), path)
                names.extend([node.targets[0].id] if isinstance(node, ast.Assign) else [])
                names.extend([node.name] if isinstance(node, (ast.FunctionDef, ast.ClassDef)) else [])
                names.extend([told.name for told in node.names] if isinstance(node, ast.ImportFrom) else [])
            self.assertEqual(len(names), len(set(names)), path)

    def test_values_of_each_files_top_are_plain(self):
        for path, tree in trees():
            for node in tree.body:
                if isinstance(node, ast.Assign):
                    value = ast.literal_eval(node.value)
                    inner = value.values() if isinstance(value, dict) else value if isinstance(value, list) else ()
                    self.assertFalse(any(isinstance(one, (list, dict)) for one in inner), (path, node.lineno))

    def test_no_annotations(self):
        for path, node in nodes(ast.FunctionDef):
            self.assertIsNone(node.returns, (path, node.name))
        for path, node in nodes(ast.arg):
            self.assertIsNone(node.annotation, (path, node.lineno))

    def test_keywords(self):
        for path, node in nodes(ast.Call):
            allowed = KEYWORDS.get(node.func.id, set()) if isinstance(node.func, ast.Name) else set()
            self.assertLessEqual({told.arg for told in node.keywords}, allowed, (path, node.lineno))

    def test_errors_of_the_programs_own_alone_are_raised_and_none_is_taken(self):
        own = {node.name for path, node in nodes(ast.ClassDef)}
        for path, node in nodes(ast.Raise):
            self.assertIsInstance(node.exc, ast.Call, (path, node.lineno))
            self.assertIn(node.exc.func.id, own, (path, node.lineno))
        self.assertEqual(nodes(ast.Try), [])

    def test_imports(self):
        drawn = {path.stem: [] for path in files()}
        for path, node in nodes(ast.ImportFrom):
            self.assertEqual(node.level, 0, path)
            package, module = node.module.split(".")
            self.assertEqual(package, "headplaces", path)
            drawn[path[:-3]].append(module)
            tree = dict((other.stem, tree) for other, tree in trees())[module]
            defined = {inner.name for inner in tree.body if isinstance(inner, (ast.FunctionDef, ast.ClassDef))}
            defined |= {inner.targets[0].id for inner in tree.body if isinstance(inner, ast.Assign)}
            for told in node.names:
                self.assertIn(told.name, defined, path)
                self.assertIsNone(told.asname, path)
        while drawn:
            free = [module for module, others in drawn.items() if not set(others) & set(drawn)]
            self.assertTrue(free, "files draw from one another")
            drawn = {module: others for module, others in drawn.items() if module not in free}


class NamesTest(unittest.TestCase):
    def test_bound_names_are_plain(self):
        for path, line, name in bound_names():
            if name not in SPECIAL_METHODS:
                self.assertRegex(name, r"\A[A-Za-z][A-Za-z0-9_]*\Z", (path, line))

    def test_no_name_of_pythons_own_is_bound(self):
        for path, node in nodes(ast.Name, ast.arg):
            name = node.arg if isinstance(node, ast.arg) else node.id
            if isinstance(node, ast.arg) or isinstance(node.ctx, ast.Store):
                self.assertFalse(hasattr(builtins, name), (path, node.lineno, name))
            elif hasattr(builtins, name):
                self.assertIn(name, OWN_NAMES, (path, node.lineno))

    def test_names_that_are_not_used(self):
        for path, node in nodes(ast.Name):
            self.assertNotIn(node.id, NOT_AS_NAMES, (path, node.lineno))

    def test_no_local_is_called_like_a_class_or_an_import(self):
        for path, tree in trees():
            taken = {node.name for node in tree.body if isinstance(node, ast.ClassDef)}
            for node in tree.body:
                if isinstance(node, ast.ImportFrom):
                    taken |= {told.name for told in node.names}
            for node in ast.walk(tree):
                if isinstance(node, ast.arg):
                    self.assertNotIn(node.arg, taken, path)
                if isinstance(node, ast.Name) and isinstance(node.ctx, ast.Store):
                    self.assertNotIn(node.id, taken, path)

    def test_methods_and_values(self):
        methods = {inner.name for path, node in nodes(ast.ClassDef) for inner in node.body
                   if isinstance(inner, ast.FunctionDef)}
        stored = {node.attr for path, node in nodes(ast.Attribute) if isinstance(node.ctx, ast.Store)}
        self.assertEqual(methods & stored, set())
        pythons = {name for kind in (str, int, list, dict, set, bytes) for name in dir(kind)}
        self.assertEqual((methods - SPECIAL_METHODS) & pythons, set())
        self.assertLessEqual(stored & pythons, {"count", "index", "title", "find", "get", "join", "lower", "upper",
                                                "split", "strip", "copy", "add"})
        for path, node in nodes(ast.Attribute):
            self.assertIn(node.attr, methods | stored | OWN_METHODS, (path, node.lineno))

    def test_walked_at_once(self):
        for path, node in nodes(ast.Assign, ast.AugAssign, ast.Return):
            if isinstance(node.value, ast.Call) and isinstance(node.value.func, ast.Name):
                self.assertNotIn(node.value.func.id, WALKED_AT_ONCE, (path, node.lineno))

    def test_what_a_loop_walks_is_not_changed_in_it(self):
        for path, loop in nodes(ast.For):
            walked = loop.iter
            while isinstance(walked, ast.Call) and walked.args:
                walked = walked.args[0]
            for node in [inner for told in loop.body for inner in ast.walk(told)]:
                changed = None
                if isinstance(node, ast.Call) and isinstance(node.func, ast.Attribute) and node.func.attr in CHANGING:
                    changed = node.func.value
                if isinstance(node, ast.Subscript) and isinstance(node.ctx, ast.Store):
                    changed = node.value
                if changed is not None:
                    self.assertNotEqual(ast.dump(changed), ast.dump(walked), (path, node.lineno))
