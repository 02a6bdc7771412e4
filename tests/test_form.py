"""The form of the package's own files: the rules of LANGUAGE.md that can be read off the code."""

import ast
import builtins
import re
import unittest
from pathlib import Path

PACKAGE = Path(__file__).resolve().parent.parent / "circuitsdesk"
FILES = sorted(PACKAGE.rglob("*.py"))

OWN_NAMES = set("""len range enumerate zip min max sum abs sorted reversed int str bool list tuple dict set
frozenset isinstance ord repr any all divmod Exception ValueError TypeError KeyError IndexError LookupError
ZeroDivisionError ArithmeticError OverflowError RuntimeError NotImplementedError AttributeError
StopIteration""".split())
METHODS = set("""append clear copy count endswith extend find get index insert isalnum isalpha isdigit islower
isspace isupper items join keys ljust lower lstrip partition pop remove replace reverse rfind rjust rpartition
rsplit rstrip setdefault split splitlines startswith strip update upper values zfill bit_length""".split())
UNDERSCORED = {"__init__", "__eq__", "__repr__", "__str__", "__len__"}
UNUSED = set("""register mro elements open input version_info with_traceback add_note format format_map
attrgetter breakpoint builtins compile copyright credits delattr dir eval exec exit gc getattr globals hasattr
help id importlib license locals methodcaller os quit setattr super vars sys chr print""".split())
UNSAID = re.compile(r"\b(type|typing|typing_extensions|enum|Enum|IntEnum|StrEnum|Flag|IntFlag|Generic|Protocol|ABC"
                    r"|ABCMeta|namedtuple|NamedTuple|TypedDict|TYPE_CHECKING|abstractmethod)\b"
                    r"|dataclass|overload|contextmanager")
KINDS = (
    ast.Module, ast.FunctionDef, ast.ClassDef, ast.arguments, ast.arg, ast.ImportFrom, ast.alias,
    ast.Assign, ast.AugAssign, ast.If, ast.While, ast.For, ast.Return, ast.Break, ast.Continue, ast.Pass,
    ast.Raise, ast.Try, ast.ExceptHandler, ast.Expr, ast.Call, ast.keyword, ast.Lambda,
    ast.Constant, ast.List, ast.Tuple, ast.Dict, ast.BinOp, ast.UnaryOp, ast.BoolOp, ast.Compare, ast.IfExp,
    ast.Attribute, ast.Subscript, ast.Slice, ast.ListComp, ast.comprehension, ast.JoinedStr, ast.FormattedValue,
    ast.Name, ast.expr_context, ast.operator, ast.unaryop, ast.boolop, ast.cmpop,
)


def nodes_of(kind):
    """Every place of this kind in the package, with its file."""
    for file in FILES:
        for node in ast.walk(ast.parse(file.read_text("ascii"))):
            if isinstance(node, kind):
                yield file.name, node


def bound_names(tree):
    """The names that a file binds anywhere."""
    for node in ast.walk(tree):
        if isinstance(node, (ast.FunctionDef, ast.ClassDef)):
            yield node.name
        elif isinstance(node, ast.arg):
            yield node.arg
        elif isinstance(node, ast.alias):
            yield node.asname or node.name
        elif isinstance(node, ast.ExceptHandler) and node.name:
            yield node.name
        elif isinstance(node, ast.Name) and isinstance(node.ctx, ast.Store):
            yield node.id


class Files(unittest.TestCase):
    def test_only_plain_files(self):
        self.assertTrue(FILES)
        for path in PACKAGE.rglob("*"):
            if "__pycache__" not in path.parts:
                self.assertRegex(path.name, r"\A(__init__|__main__|[a-z][a-z0-9_]*)\.py\Z")

    def test_signs_and_sizes(self):
        for file in FILES:
            text = file.read_bytes().decode("ascii")
            self.assertRegex(text, r"\A[ -~\n]*\Z", file)
            self.assertLessEqual(len(text.splitlines()), 400, file)
            self.assertLessEqual(max(map(len, text.splitlines()), default=0), 120, file)
            self.assertIsNone(UNSAID.search(text), file)

    def test_functions_are_small(self):
        for file, node in nodes_of(ast.FunctionDef):
            self.assertLessEqual(node.end_lineno - node.lineno + 1, 40, (file, node.name))


class Form(unittest.TestCase):
    def test_only_allowed_kinds(self):
        for file, node in nodes_of(ast.AST):
            self.assertIsInstance(node, KINDS, (file, getattr(node, "lineno", None)))
            self.assertNotIsInstance(node, (ast.Div, ast.MatMult, ast.Starred), file)

    def test_functions_and_classes_are_plain(self):
        for file, node in nodes_of(ast.FunctionDef):
            plain = node.args
            self.assertFalse(node.decorator_list or plain.vararg or plain.kwarg or plain.kwonlyargs, (file, node.name))
        for file, node in nodes_of(ast.ClassDef):
            self.assertFalse(node.decorator_list or node.keywords or node.bases[1:], (file, node.name))
            for part in node.body[1 if ast.get_docstring(node) else 0:]:
                self.assertIsInstance(part, ast.FunctionDef, (file, node.name))

    def test_statements(self):
        for file, node in nodes_of((ast.For, ast.While)):
            self.assertFalse(node.orelse, (file, node.lineno))
        for file, node in nodes_of(ast.Try):
            self.assertFalse(node.finalbody, (file, node.lineno))
        for file, node in nodes_of(ast.Assign):
            self.assertEqual(len(node.targets), 1, (file, node.lineno))
        for file, node in nodes_of(ast.ListComp):
            self.assertEqual(len(node.generators), 1, (file, node.lineno))
            self.assertLessEqual(len(node.generators[0].ifs), 1, (file, node.lineno))
        for file, node in nodes_of(ast.ExceptHandler):
            self.assertIsNotNone(node.type, (file, node.lineno))
            self.assertNotIn(ast.unparse(node.type), ("Exception", "TypeError"), (file, node.lineno))

    def test_values(self):
        for file, node in nodes_of(ast.Constant):
            self.assertIn(type(node.value), (int, str, bool, type(None)), (file, node.lineno))
        for file, node in nodes_of(ast.Compare):
            for sort, right in zip(node.ops, node.comparators):
                if isinstance(sort, (ast.Is, ast.IsNot)):
                    self.assertIn(ast.unparse(right), ("None", "True", "False"), (file, node.lineno))

    def test_imports_are_the_packages_own(self):
        for file, node in nodes_of(ast.ImportFrom):
            self.assertEqual(node.level, 0, file)
            self.assertRegex(node.module, r"\Acircuitsdesk\.[a-z0-9_]+\Z", file)
            self.assertNotIn("*", [name.name for name in node.names], file)

    def test_top_of_each_file(self):
        for file in FILES:
            tree = ast.parse(file.read_text("ascii"))
            self.assertTrue(ast.get_docstring(tree), file)
            for node in tree.body[1:]:
                self.assertIsInstance(node, (ast.ImportFrom, ast.FunctionDef, ast.ClassDef, ast.Assign), file)
                if isinstance(node, ast.Assign):
                    ast.literal_eval(node.value)
            names = [name for node in tree.body for name in bound_names(ast.Module([node], []))
                     if isinstance(node, (ast.ImportFrom, ast.Assign)) or name == getattr(node, "name", None)]
            self.assertEqual(len(names), len(set(names)), file)

    def test_names(self):
        for file in FILES:
            tree = ast.parse(file.read_text("ascii"))
            bound = set(bound_names(tree))
            self.assertFalse(bound & (set(dir(builtins)) | UNUSED), file)
            for name in bound - UNDERSCORED:
                self.assertRegex(name, r"\A[A-Za-z][A-Za-z0-9_]*\Z", file)
            for node in ast.walk(tree):
                if isinstance(node, ast.Name):
                    self.assertIn(node.id, bound | OWN_NAMES, (file, node.lineno))

    def test_methods(self):
        own = {node.name for file, node in nodes_of(ast.FunctionDef)}
        for file, node in nodes_of(ast.Call):
            if isinstance(node.func, ast.Attribute):
                self.assertIn(node.func.attr, METHODS | own, (file, node.lineno))
        for file, node in nodes_of(ast.Attribute):
            self.assertNotIn(node.attr, UNUSED, (file, node.lineno))


def trees():
    """Each file's name without its ending, and its tree."""
    return {file.stem: ast.parse(file.read_text("ascii")) for file in FILES}


def drawn_from(tree):
    """The files of the package that a file draws from."""
    return [node.module.split(".")[1] for node in tree.body if isinstance(node, ast.ImportFrom)]


def called_name(node):
    """The name that is called, if a plain name is."""
    return node.func.id if isinstance(node, ast.Call) and isinstance(node.func, ast.Name) else None


class Narrower(unittest.TestCase):
    """Some of the rules from L12 on."""

    def test_imports_come_from_the_file_that_defines_the_name(self):
        files = trees()
        for name, tree in files.items():
            for node in tree.body:
                if isinstance(node, ast.ImportFrom):
                    source = files[node.module.split(".")[1]]
                    defined = [part.name for part in source.body if isinstance(part, (ast.FunctionDef, ast.ClassDef))]
                    for imported in node.names:
                        self.assertIn(imported.name, defined, name)
                        self.assertIsNone(imported.asname, name)

    def test_no_two_files_draw_from_one_another(self):
        left = {name: drawn_from(tree) for name, tree in trees().items()}
        while left:
            ready = [name for name, sources in left.items() if not set(sources) & set(left)]
            self.assertTrue(ready, left)
            left = {name: sources for name, sources in left.items() if name not in ready}

    def test_no_local_is_called_like_a_class_or_an_import(self):
        for name, tree in trees().items():
            taken = {node.name for node in tree.body if isinstance(node, ast.ClassDef)}
            taken |= {part.name for node in tree.body if isinstance(node, ast.ImportFrom) for part in node.names}
            for node in tree.body:
                if isinstance(node, (ast.FunctionDef, ast.ClassDef)):
                    inner = list(bound_names(ast.Module(node.body, [])))
                    inner += [part.arg for part in ast.walk(node) if isinstance(part, ast.arg)]
                    self.assertFalse(taken & set(inner), (name, node.name))

    def test_own_methods_and_values(self):
        pythons = set().union(*map(dir, (str, int, list, dict, set, bytes, tuple)))
        methods, values = set(), set()
        for file, node in nodes_of(ast.ClassDef):
            methods |= {part.name for part in node.body if isinstance(part, ast.FunctionDef)}
        for file, node in nodes_of(ast.Attribute):
            if isinstance(node.ctx, ast.Store):
                values.add(node.attr)
        self.assertFalse(methods & values)
        self.assertFalse((methods - UNDERSCORED | values) & pythons)

    def test_keywords(self):
        allowed = {"sorted": {"key", "reverse"}, "min": {"key", "default"}, "max": {"key", "default"},
                   "sum": {"start"}, "enumerate": {"start"}, "zip": {"strict"}}
        for file, node in nodes_of(ast.Call):
            if node.keywords and (called_name(node) in OWN_NAMES or isinstance(node.func, ast.Attribute)):
                self.assertLessEqual({part.arg for part in node.keywords}, allowed.get(called_name(node), set()), file)

    def test_walked_at_once(self):
        walks = ("zip", "enumerate", "reversed", "range")
        takers = ("list", "tuple", "dict", "sorted", "sum", "any", "all", "enumerate", "zip", "min", "max")
        walked = set()
        for file in FILES:
            tree = ast.parse(file.read_text("ascii"))
            for node in ast.walk(tree):
                if isinstance(node, (ast.For, ast.comprehension)):
                    walked.add(node.iter)
                elif called_name(node) in takers:
                    walked.update(node.args[:1])
            for node in ast.walk(tree):
                if called_name(node) in walks:
                    self.assertIn(node, walked, (file, node.lineno))

    def test_numbers_and_texts(self):
        for file, node in nodes_of(ast.Constant):
            if isinstance(node.value, str):
                self.assertNotIn("%", node.value, (file, node.lineno))
        for file, node in nodes_of(ast.BinOp):
            if isinstance(node.op, ast.Pow):
                self.assertIsInstance(node.right, ast.Constant, (file, node.lineno))

    def test_nothing_is_kept_at_a_files_top(self):
        for name, tree in trees().items():
            kept = [node.targets[0].id for node in tree.body
                    if isinstance(node, ast.Assign) and isinstance(node.value, (ast.List, ast.Dict))]
            for node in ast.walk(tree):
                if isinstance(node, (ast.Subscript, ast.Attribute)) and isinstance(node.ctx, ast.Store):
                    self.assertNotIn(ast.unparse(node.value), kept, name)
                if isinstance(node, ast.Call) and isinstance(node.func, ast.Attribute):
                    if ast.unparse(node.func.value) in kept:
                        self.assertIn(node.func.attr, ("get", "items", "keys", "values", "index", "count"), name)

    def test_errors(self):
        for file, node in nodes_of(ast.Raise):
            self.assertIsInstance(node.exc, ast.Call, (file, node.lineno))
        for file, node in nodes_of(ast.ClassDef):
            for base in node.bases:
                self.assertIn(ast.unparse(base), ("Exception", "ValueError"), (file, node.name))


if __name__ == "__main__":
    unittest.main()
