"""The package keeps to the part of Python that it is to be written in, as far as is checked here.

Where a rule allows a thing only with care, and the package has no use for it, it is not allowed here at all: sets,
errors that are taken, methods with two underscores but __init__. Of L13, L15, L18, L22, L23 and L28 single points
alone are checked.
"""

import ast
import builtins
import io
import re
import tokenize
import unittest
from pathlib import Path

PACKAGE = Path(__file__).resolve().parent.parent / "carpetworks"

BUILT_IN = set(
    "len range enumerate zip min max sum abs sorted reversed int str bool list tuple dict set frozenset isinstance "
    "ord repr any all divmod Exception ValueError TypeError KeyError IndexError LookupError ZeroDivisionError "
    "ArithmeticError OverflowError RuntimeError NotImplementedError AttributeError StopIteration".split())
METHODS = set(
    "append clear copy count endswith extend find get index insert isalnum isalpha isdigit islower isspace isupper "
    "items join keys ljust lower lstrip partition pop remove replace reverse rfind rjust rpartition rsplit rstrip "
    "setdefault split splitlines startswith strip update upper values zfill bit_length".split())
WORDS = set(
    "type typing typing_extensions enum Enum IntEnum StrEnum Flag IntFlag Generic Protocol ABC ABCMeta namedtuple "
    "NamedTuple TypedDict TYPE_CHECKING abstractmethod".split())
NAMES_OUT = set(
    "register mro elements open input version_info with_traceback add_note attrgetter breakpoint builtins compile "
    "copyright credits delattr dir eval exec exit gc getattr globals hasattr help id importlib license locals "
    "methodcaller os quit setattr super sys type vars".split())
STATEMENTS = (
    ast.Assign, ast.AugAssign, ast.If, ast.While, ast.For, ast.Return, ast.Break, ast.Continue, ast.Pass, ast.Raise,
    ast.Try, ast.Expr, ast.FunctionDef, ast.ClassDef, ast.ImportFrom)
EXPRESSIONS = (
    ast.Constant, ast.List, ast.Tuple, ast.Dict, ast.Set, ast.BinOp, ast.UnaryOp, ast.Compare, ast.BoolOp, ast.IfExp,
    ast.Call, ast.Attribute, ast.Subscript, ast.Slice, ast.ListComp, ast.JoinedStr, ast.FormattedValue, ast.Name,
    ast.Lambda)
KEYWORDS = {"sorted": ("key", "reverse"), "min": ("key", "default"), "max": ("key", "default"), "sum": ("start",),
            "enumerate": ("start",), "zip": ("strict",)}
WALKS = ("zip", "enumerate", "reversed", "range")


def files():
    return sorted(path for path in PACKAGE.rglob("*") if "__pycache__" not in path.parts)


def trees():
    return [(path.name, ast.parse(path.read_text())) for path in files()]


def own_values(tree):
    """Names of attributes and methods that the package's own classes have."""
    found = set()
    for node in ast.walk(tree):
        if isinstance(node, ast.ClassDef):
            for inner in ast.walk(node):
                if isinstance(inner, ast.FunctionDef):
                    found.add(inner.name)
                if isinstance(inner, ast.Attribute) and isinstance(inner.ctx, ast.Store):
                    found.add(inner.attr)
    return found


def is_plain(node, functions):
    if isinstance(node, (ast.List, ast.Tuple)):
        return all(is_plain(value, functions) for value in node.elts)
    if isinstance(node, ast.Dict):
        return all(is_plain(value, functions) for value in node.keys + node.values)
    if isinstance(node, ast.UnaryOp):
        return isinstance(node.op, ast.USub) and is_plain(node.operand, functions)
    if isinstance(node, ast.Name):
        return node.id in functions
    return isinstance(node, ast.Constant) and (node.value is None or type(node.value) in (int, str, bool))


class Language(unittest.TestCase):
    def every(self, kind):
        for name, tree in trees():
            for node in ast.walk(tree):
                if isinstance(node, kind):
                    yield f"{name}:{getattr(node, 'lineno', 0)}", node

    def test_files(self):
        self.assertTrue(files())
        for path in files():
            self.assertRegex(path.name, r"^[a-z0-9_]+\.py$")
            self.assertEqual(path.parent, PACKAGE)
            self.assertNotIn(path.stem, set(dir(builtins)) | WORDS)
            self.assertNotRegex(path.stem, r"^(test.*|site|conftest|sitecustomize|usercustomize)$")

    def test_lines_and_signs(self):
        for path in files():
            text = path.read_bytes().decode("ascii")
            self.assertRegex(text, r"\A[ -~\n]*\Z", path.name)
            lines = text.split("\n")
            self.assertLessEqual(len(lines), 400, path.name)
            self.assertLessEqual(max(len(line) for line in lines), 120, path.name)
            self.assertFalse(WORDS & set(re.findall(r"\w+", text)), path.name)
            self.assertNotRegex(text, "dataclass|overload|contextmanager")
            for token in tokenize.generate_tokens(io.StringIO(text).readline):
                if token.type == tokenize.STRING:
                    self.assertNotIn("%", token.string, path.name)

    def test_imports(self):
        defined = {name[:-3]: {getattr(node, "name", None) for node in tree.body}
                   | {node.targets[0].id for node in tree.body if isinstance(node, ast.Assign)}
                   for name, tree in trees()}
        drawn = {name[:-3]: [] for name, tree in trees()}
        for place, node in self.every(ast.ImportFrom):
            self.assertEqual(node.level, 0, place)
            self.assertRegex(node.module, r"^carpetworks\.\w+$", place)
            for alias in node.names:
                self.assertIn(alias.name, defined[node.module.split(".")[1]], place)
                self.assertIsNone(alias.asname, place)
            drawn[place.split(".")[0]].append(node.module.split(".")[1])
        for start in drawn:
            reached = list(drawn[start])
            for name in reached:
                self.assertNotEqual(name, start, "files that draw from one another")
                reached.extend(other for other in drawn[name] if other not in reached)
        self.assertEqual(drawn["__init__"], [])

    def test_the_top_of_a_module(self):
        for name, tree in trees():
            functions = {node.name for node in tree.body if isinstance(node, ast.FunctionDef)}
            bound = []
            for number, node in enumerate(tree.body):
                if isinstance(node, ast.Expr):
                    self.assertEqual(number, 0, name)
                    self.assertIsInstance(node.value.value, str)
                    continue
                self.assertIsInstance(node, (ast.FunctionDef, ast.ClassDef, ast.Assign, ast.ImportFrom), name)
                if isinstance(node, ast.Assign):
                    self.assertTrue(is_plain(node.value, functions), f"{name}:{node.lineno}")
                    bound.append(node.targets[0].id)
                elif isinstance(node, ast.ImportFrom):
                    bound += [alias.name for alias in node.names]
                else:
                    bound.append(node.name)
            self.assertEqual(len(bound), len(set(bound)), name)

    def test_functions(self):
        for place, node in self.every(ast.FunctionDef):
            given = node.args
            self.assertFalse(given.vararg or given.kwarg or given.kwonlyargs or given.posonlyargs, place)
            self.assertFalse(node.decorator_list or node.returns, place)
            self.assertTrue(all(one.annotation is None for one in given.args), place)
            self.assertLessEqual(node.end_lineno - node.lineno + 1, 40, place)

    def test_classes(self):
        for place, node in self.every(ast.ClassDef):
            self.assertFalse(node.decorator_list or node.keywords, place)
            self.assertLessEqual(len(node.bases), 1, place)
            self.assertTrue(all(isinstance(inner, ast.FunctionDef) for inner in node.body), place)

    def test_no_name_is_a_method_and_a_value(self):
        methods = set()
        values = set()
        for place, node in self.every(ast.ClassDef):
            methods |= {inner.name for inner in node.body if isinstance(inner, ast.FunctionDef)}
            values |= {inner.attr for inner in ast.walk(node)
                       if isinstance(inner, ast.Attribute) and isinstance(inner.ctx, ast.Store)}
        self.assertFalse(methods & values)
        own = (methods | values) - {"__init__"}
        for kind in (str, int, list, dict, set, bytes):
            self.assertFalse(own & set(dir(kind)), kind)

    def test_statements(self):
        for place, node in self.every(ast.stmt):
            self.assertIsInstance(node, STATEMENTS, place)
            if isinstance(node, ast.Assign):
                self.assertEqual(len(node.targets), 1, place)
            if isinstance(node, (ast.For, ast.While)):
                self.assertFalse(node.orelse, place)
            if isinstance(node, ast.Try):
                self.assertFalse(node.finalbody, place)
            if isinstance(node, ast.Expr):
                self.assertIsInstance(node.value, (ast.Call, ast.Constant), place)

    def test_expressions(self):
        for place, node in self.every(ast.expr):
            self.assertIsInstance(node, EXPRESSIONS, place)
            if isinstance(node, ast.Constant):
                self.assertIn(type(node.value), (int, str, bool, type(None)), place)
            if isinstance(node, ast.BinOp):
                self.assertNotIsInstance(node.op, (ast.Div, ast.MatMult, ast.Pow), place)
            if isinstance(node, ast.ListComp):
                self.assertEqual(len(node.generators), 1, place)
                self.assertLessEqual(len(node.generators[0].ifs), 1, place)
            if isinstance(node, ast.FormattedValue):
                self.assertIsInstance(node.value, ast.Name, place)
            if isinstance(node, ast.Compare) and any(isinstance(op, (ast.Is, ast.IsNot)) for op in node.ops):
                self.assertIsInstance(node.comparators[0], ast.Constant, place)
            if isinstance(node, ast.Set):
                self.fail(place)

    def test_names(self):
        python = set(dir(builtins))
        for name, tree in trees():
            imported = {alias.name for node in tree.body if isinstance(node, ast.ImportFrom) for alias in node.names}
            taken = imported | {node.name for node in tree.body if isinstance(node, ast.ClassDef)}
            for node in ast.walk(tree):
                place = f"{name}:{getattr(node, 'lineno', 0)}"
                if isinstance(node, ast.Name):
                    self.assertRegex(node.id, r"^[A-Za-z][A-Za-z0-9_]*$", place)
                    self.assertNotIn(node.id, NAMES_OUT, place)
                    if isinstance(node.ctx, ast.Store):
                        self.assertNotIn(node.id, python | taken, place)
                    elif node.id in python:
                        self.assertIn(node.id, BUILT_IN, place)
                if isinstance(node, ast.arg):
                    self.assertRegex(node.arg, r"^[A-Za-z][A-Za-z0-9_]*$", place)
                    self.assertNotIn(node.arg, python | taken | NAMES_OUT, place)
                if isinstance(node, ast.FunctionDef) and node.name != "__init__":
                    self.assertRegex(node.name, r"^[A-Za-z][A-Za-z0-9_]*$", place)
                    self.assertNotIn(node.name, python | NAMES_OUT, place)

    def test_methods_and_calls(self):
        own = set().union(*[own_values(tree) for name, tree in trees()])
        for place, node in self.every(ast.Attribute):
            self.assertIn(node.attr, own | METHODS, place)
        for place, node in self.every(ast.Call):
            if node.keywords:
                self.assertIsInstance(node.func, ast.Name, place)
                for keyword in node.keywords:
                    self.assertIn(keyword.arg, KEYWORDS.get(node.func.id, ()), place)

    def test_what_the_package_has_no_use_for(self):
        for place, node in self.every((ast.Try, ast.Set)):
            self.fail(place)
        for place, node in self.every(ast.Name):
            self.assertNotIn(node.id, ("set", "frozenset", "chr"), place)
        for place, node in self.every(ast.FunctionDef):
            self.assertTrue(node.name == "__init__" or not node.name.startswith("__"), place)

    def test_classes_are_called_alone(self):
        classes = {node.name for place, node in self.every(ast.ClassDef)}
        for name, tree in trees():
            called = {id(node.func) for node in ast.walk(tree) if isinstance(node, ast.Call)}
            for node in ast.walk(tree):
                if isinstance(node, ast.Name) and node.id in classes:
                    self.assertIn(id(node), called, f"{name}:{node.lineno}")

    def test_lists_and_dicts_of_a_files_top_are_only_read(self):
        kept = {node.targets[0].id for name, tree in trees() for node in tree.body
                if isinstance(node, ast.Assign) and isinstance(node.value, (ast.List, ast.Dict))}
        for name, tree in trees():
            read = set()
            for node in ast.walk(tree):
                if isinstance(node, ast.Subscript) and isinstance(node.ctx, ast.Load):
                    read.add(id(node.value))
                if isinstance(node, ast.Compare):
                    read |= {id(value) for value in node.comparators}
                if isinstance(node, (ast.For, ast.comprehension)):
                    read.add(id(node.iter))
            for node in ast.walk(tree):
                if isinstance(node, ast.Name) and node.id in kept and isinstance(node.ctx, ast.Load):
                    self.assertIn(id(node), read, f"{name}:{node.lineno}")

    def test_no_loop_changes_what_it_walks(self):
        for place, node in self.every(ast.For):
            walked = {ast.unparse(part) for part in ast.walk(node.iter) if isinstance(part, (ast.Name, ast.Attribute))}
            for inner in [part for row in node.body for part in ast.walk(row)]:
                if isinstance(inner, ast.Call) and isinstance(inner.func, ast.Attribute):
                    self.assertNotIn(ast.unparse(inner.func.value), walked, place)
                if isinstance(inner, ast.Subscript) and isinstance(inner.ctx, ast.Store):
                    self.assertNotIn(ast.unparse(inner.value), walked, place)

    def test_walks_are_not_kept(self):
        for name, tree in trees():
            for node in ast.walk(tree):
                if isinstance(node, (ast.Assign, ast.Return)) and isinstance(node.value, ast.Call):
                    called = node.value.func
                    self.assertNotIn(getattr(called, "id", getattr(called, "attr", None)),
                                     WALKS + ("items", "keys", "values", "set", "frozenset"), f"{name}:{node.lineno}")


if __name__ == "__main__":
    unittest.main()
