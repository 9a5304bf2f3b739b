"""The package keeps to its part of Python: what of the rules L1 to L28 can be seen in the files."""

import ast
import builtins
import io
import re
import tokenize
import unittest
from pathlib import Path

PACKAGE = Path(__file__).resolve().parent.parent / "rooftold"
FILES = sorted(path for path in PACKAGE.rglob("*") if path.is_file() and "__pycache__" not in path.parts)

STATEMENTS = (ast.Assign, ast.AugAssign, ast.If, ast.While, ast.For, ast.Return, ast.Break, ast.Continue, ast.Pass,
              ast.Raise, ast.Try, ast.Expr, ast.FunctionDef, ast.ClassDef, ast.ImportFrom)
OTHERS = (ast.Module, ast.arguments, ast.arg, ast.alias, ast.ExceptHandler, ast.comprehension, ast.keyword,
          ast.expr_context, ast.operator, ast.boolop, ast.unaryop, ast.cmpop, ast.Name, ast.Constant, ast.List,
          ast.Tuple, ast.Dict, ast.BinOp, ast.UnaryOp, ast.BoolOp, ast.Compare, ast.IfExp, ast.Call, ast.Attribute,
          ast.Subscript, ast.Slice, ast.ListComp, ast.Lambda, ast.JoinedStr, ast.FormattedValue)
OWN_OF_PYTHON = """len range enumerate zip min max sum abs sorted reversed int str bool list tuple dict set frozenset
    isinstance ord repr any all divmod Exception ValueError TypeError KeyError IndexError LookupError
    ZeroDivisionError ArithmeticError OverflowError RuntimeError NotImplementedError AttributeError
    StopIteration""".split()
METHODS = """append clear copy count endswith extend find get index insert isalnum isalpha isdigit islower isspace
    isupper items join keys ljust lower lstrip partition pop remove replace reverse rfind rjust rpartition rsplit
    rstrip setdefault split splitlines startswith strip update upper values zfill bit_length""".split()
CHANGES = ("append", "clear", "extend", "insert", "pop", "remove", "reverse", "setdefault", "update")
WALKED_AT_ONCE = ("zip", "enumerate", "reversed", "range")
WALKERS = ("list", "tuple", "dict", "sorted", "sum", "any", "all", "enumerate", "zip", "min", "max")
NO_NAMES = """register mro elements open input version_info with_traceback add_note attrgetter breakpoint builtins
    compile copyright credits delattr dir eval exec exit gc getattr globals hasattr help id importlib license locals
    methodcaller os quit setattr super type vars sys format format_map""".split()
NO_WORDS = """type typing typing_extensions enum Enum IntEnum StrEnum Flag IntFlag Generic Protocol ABC ABCMeta
    namedtuple NamedTuple TypedDict TYPE_CHECKING abstractmethod""".split()
NO_PARTS = ("dataclass", "overload", "contextmanager")


def trees():
    return {path: ast.parse(path.read_text(encoding="utf-8")) for path in FILES}


def nodes(kind):
    return [(path, node) for path, tree in trees().items() for node in ast.walk(tree) if isinstance(node, kind)]


def bound_at_top(tree):
    names = []
    for row in tree.body:
        if isinstance(row, (ast.FunctionDef, ast.ClassDef)):
            names.append(row.name)
        elif isinstance(row, ast.Assign):
            names.append(row.targets[0].id)
        elif isinstance(row, ast.ImportFrom):
            names += [alias.name for alias in row.names]
    return names


def is_plain_value(node):
    if isinstance(node, (ast.List, ast.Tuple)):
        return all(is_plain_value(part) for part in node.elts)
    if isinstance(node, ast.UnaryOp):
        return isinstance(node.op, ast.USub) and is_plain_value(node.operand)
    return isinstance(node, ast.Constant) and (node.value is None or type(node.value) in (int, str, bool))


class Language(unittest.TestCase):
    def fine(self, condition, path, node, rule):
        self.assertTrue(condition, f"{rule} {path.name}:{getattr(node, 'lineno', 0)}")

    def test_files(self):
        self.assertIn(PACKAGE / "__init__.py", FILES)
        self.assertIn(PACKAGE / "desk.py", FILES)
        for path in FILES:
            self.fine(re.fullmatch(r"(__init__|[a-z][a-z0-9_]*)\.py", path.name), path, None, "L1, L14")
            self.fine(not hasattr(builtins, path.stem) or path.stem == "__init__", path, None, "L14")
            self.fine(path.stem not in NO_WORDS and not path.stem.startswith("test"), path, None, "L14")
            self.fine(path.parent == PACKAGE, path, None, "L1")

    def test_signs_and_sizes(self):
        for path in FILES:
            text = path.read_bytes()
            self.assertTrue(all(sign == 10 or 32 <= sign <= 126 for sign in text), f"L14 {path.name}")
            rows = text.decode().split("\n")
            self.assertLessEqual(len(rows), 400, f"L10 {path.name}")
            self.assertLessEqual(max(map(len, rows)), 120, f"L10 {path.name}")
        for path, node in nodes(ast.FunctionDef):
            self.fine(node.end_lineno - node.lineno < 40, path, node, "L10")

    def test_imports(self):
        drawn = {}
        for path, tree in trees().items():
            drawn[path.stem] = []
            for node in ast.walk(tree):
                if isinstance(node, ast.ImportFrom):
                    self.fine(node in tree.body and node.level == 0, path, node, "L2")
                    self.fine(re.fullmatch(r"rooftold\.[a-z_]+", node.module), path, node, "L2, L16")
                    source = ast.parse((PACKAGE / (node.module.split(".")[1] + ".py")).read_text())
                    defined = [name for row in source.body if not isinstance(row, ast.ImportFrom)
                               for name in bound_at_top(ast.Module([row], []))]
                    for alias in node.names:
                        self.fine(alias.asname is None and alias.name in defined, path, node, "L16")
                    drawn[path.stem].append(node.module.split(".")[1])
        while drawn:
            ends = [name for name, sources in drawn.items() if not set(sources) & set(drawn)]
            self.assertTrue(ends, f"L16 files draw from one another: {sorted(drawn)}")
            drawn = {name: sources for name, sources in drawn.items() if name not in ends}

    def test_the_top_of_a_module(self):
        for path, tree in trees().items():
            for row in tree.body[1:]:
                self.fine(isinstance(row, (ast.ImportFrom, ast.FunctionDef, ast.ClassDef, ast.Assign)), path, row, "L3")
                if isinstance(row, ast.Assign):
                    self.fine(is_plain_value(row.value), path, row, "L3, L15")
            names = bound_at_top(tree)
            self.assertEqual(len(names), len(set(names)), f"L15 {path.name}")
            self.assertTrue(ast.get_docstring(tree), path.name)

    def test_statements_and_expressions(self):
        for path, node in nodes(ast.AST):
            self.fine(isinstance(node, STATEMENTS + OTHERS), path, node, f"L6, L7 {node!r}")
            if isinstance(node, ast.Assign):
                self.fine(len(node.targets) == 1, path, node, "L6")
            if isinstance(node, (ast.For, ast.While)):
                self.fine(not node.orelse, path, node, "L6")
            if isinstance(node, ast.Try):
                self.fine(not node.finalbody, path, node, "L6")
            if isinstance(node, ast.Constant):
                self.fine(node.value is None or type(node.value) in (int, str, bool), path, node, "L7")
            if isinstance(node, ast.ListComp):
                self.fine(len(node.generators) == 1 and len(node.generators[0].ifs) <= 1, path, node, "L7")
            if isinstance(node, (ast.Div, ast.MatMult, ast.Pow)):
                self.fine(False, path, node, "L7, L27")
            if isinstance(node, (ast.Set, ast.SetComp, ast.DictComp, ast.GeneratorExp, ast.Starred)):
                self.fine(False, path, node, "L7, L24")
            if isinstance(node, ast.Compare):
                for op, other in zip(node.ops, node.comparators):
                    if isinstance(op, (ast.Is, ast.IsNot)):
                        self.fine(isinstance(other, ast.Constant) and other.value in (None, True, False),
                                  path, node, "L20")

    def test_functions_and_classes(self):
        for path, node in nodes((ast.FunctionDef, ast.Lambda)):
            given = node.args
            self.fine(not (given.vararg or given.kwarg or given.kwonlyargs or given.posonlyargs), path, node, "L4")
            self.fine(not getattr(node, "decorator_list", []), path, node, "L4")
        for path in FILES:
            rows = [node.lineno for where, node in nodes(ast.Lambda) if where == path]
            self.assertEqual(len(rows), len(set(rows)), f"L13 {path.name}")
        for path, tree in trees().items():
            for node in ast.walk(tree):
                if isinstance(node, ast.ClassDef):
                    self.fine(node in tree.body, path, node, "L15")
                    self.fine(not node.decorator_list and not node.keywords and len(node.bases) <= 1, path, node, "L5")
                    self.fine(all(isinstance(row, (ast.FunctionDef, ast.Pass)) for row in node.body), path, node, "L5")

    def test_expressions_by_themselves(self):
        for path, tree in trees().items():
            for node in ast.walk(tree):
                if isinstance(node, ast.Expr):
                    is_doc = node is tree.body[0]
                    self.fine(is_doc or isinstance(node.value, ast.Call), path, node, "L6")

    def test_names(self):
        for path, tree in trees().items():
            taken = [row.name for row in tree.body if isinstance(row, ast.ClassDef)]
            taken += [alias.name for row in tree.body if isinstance(row, ast.ImportFrom) for alias in row.names]
            for node in ast.walk(tree):
                if isinstance(node, ast.Name) and isinstance(node.ctx, ast.Load) and hasattr(builtins, node.id):
                    self.fine(node.id in OWN_OF_PYTHON, path, node, f"L8 {node.id}")
                for name in self.names_bound(node):
                    self.fine(re.fullmatch(r"[A-Za-z][A-Za-z0-9_]*", name), path, node, f"L12 {name}")
                    self.fine(not hasattr(builtins, name) and name not in taken, path, node, f"L15 {name}")
                    self.fine(name not in NO_NAMES, path, node, f"L17 {name}")
                if isinstance(node, ast.Attribute):
                    self.fine(node.attr not in NO_NAMES, path, node, f"L17 {node.attr}")

    def names_bound(self, node):
        if isinstance(node, ast.Name) and isinstance(node.ctx, ast.Store):
            return [node.id]
        if isinstance(node, ast.arg):
            return [node.arg]
        if isinstance(node, ast.FunctionDef) and node.name != "__init__":
            return [node.name]
        return []

    def test_methods(self):
        own = [node.name for path, node in nodes(ast.FunctionDef)]
        for path, node in nodes(ast.Call):
            if isinstance(node.func, ast.Attribute):
                self.fine(node.func.attr in METHODS + own, path, node, f"L25 {node.func.attr}")
            elif node.keywords:
                self.fine(node.func.id in own or {word.arg for word in node.keywords} <=
                          {"key", "reverse", "default", "start", "strict"}, path, node, "L22")
        for path, tree in trees().items():
            called = [id(node.func) for node in ast.walk(tree) if isinstance(node, ast.Call)]
            for node in ast.walk(tree):
                if isinstance(node, ast.Attribute) and node.attr in METHODS:
                    self.fine(id(node) in called, path, node, "L25")

    def test_walked_at_once(self):
        for path, tree in trees().items():
            fit = []
            for node in ast.walk(tree):
                if isinstance(node, (ast.For, ast.comprehension)):
                    fit.append(id(node.iter))
                if isinstance(node, ast.Call) and isinstance(node.func, ast.Name) and node.func.id in WALKERS:
                    fit += [id(part) for part in node.args]
            for node in ast.walk(tree):
                if isinstance(node, ast.Call):
                    called = getattr(node.func, "id", None) in WALKED_AT_ONCE
                    method = getattr(node.func, "attr", None) in ("items", "keys", "values")
                    self.fine(not (called or method) or id(node) in fit, path, node, "L23")

    def test_what_is_walked_is_not_changed(self):
        for path, node in nodes(ast.For):
            walked = {part.id for part in ast.walk(node.iter) if isinstance(part, ast.Name)}
            for part in [part for row in node.body for part in ast.walk(row)]:
                if isinstance(part, ast.Call) and getattr(part.func, "attr", None) in CHANGES:
                    self.fine(getattr(part.func.value, "id", None) not in walked, path, part, "L23")
                if isinstance(part, ast.Subscript) and isinstance(part.ctx, ast.Store):
                    self.fine(getattr(part.value, "id", None) not in walked, path, part, "L23")

    def test_words_and_texts(self):
        for path in FILES:
            text = path.read_text()
            for word in re.findall(r"[A-Za-z_0-9]+", text):
                self.assertNotIn(word, NO_WORDS, f"L17 {path.name}")
            for part in NO_PARTS:
                self.assertNotIn(part, text, f"L17 {path.name}")
            for token in tokenize.generate_tokens(io.StringIO(text).readline):
                if token.type == tokenize.STRING:
                    self.assertNotIn("%", token.string, f"L27 {path.name}")
                    self.assertFalse(re.search(r"\\[^nt\\\"']", token.string), f"L27 {path.name}")

    def test_errors_are_the_programs_own(self):
        own = [node.name for path, node in nodes(ast.ClassDef)]
        for path, node in nodes(ast.ExceptHandler):
            self.fine(isinstance(node.type, ast.Name) and node.type.id in own, path, node, "L19")
        for path, node in nodes(ast.Raise):
            self.fine(isinstance(node.exc, ast.Call) and node.exc.func.id in own, path, node, "L19")


if __name__ == "__main__":
    unittest.main()
