"""Holds the package's own files to the part of Python that it keeps to, as far as that is easily seen."""

import ast
import builtins
import pathlib
import re
import unittest

PACKAGE = pathlib.Path(__file__).resolve().parent.parent / "paperroll"
FILES = sorted(PACKAGE.rglob("*.py"))
NODES = tuple(getattr(ast, name) for name in (
    "Module ImportFrom alias FunctionDef ClassDef arguments arg Lambda Expr Assign AugAssign If While For Return Break "
    "Continue Pass Raise Try ExceptHandler Constant Name Attribute Subscript Slice Call keyword List Tuple Dict "
    "ListComp comprehension BinOp UnaryOp BoolOp Compare IfExp JoinedStr FormattedValue expr_context operator unaryop "
    "boolop cmpop"
).split())
BUILTINS = (
    "len range enumerate zip min max sum abs sorted reversed int str bool list tuple dict set frozenset isinstance ord "
    "repr any all divmod Exception ValueError TypeError KeyError IndexError LookupError ZeroDivisionError "
    "ArithmeticError OverflowError RuntimeError NotImplementedError StopIteration"
).split()
METHODS = (
    "append clear copy count endswith extend find get index insert isalnum isalpha isdigit islower isspace isupper "
    "items join keys ljust lower lstrip partition pop remove replace reverse rfind rjust rpartition rsplit rstrip "
    "setdefault split splitlines startswith strip update upper values zfill bit_length"
).split()
UNUSED_WORDS = (
    "type typing typing_extensions enum Enum IntEnum StrEnum Flag IntFlag Generic Protocol ABC ABCMeta namedtuple "
    "NamedTuple TypedDict TYPE_CHECKING abstractmethod"
).split()
UNUSED_NAMES = "register mro elements open input version_info with_traceback add_note format format_map".split()
TWO_UNDERSCORES = ("__init__", "__eq__", "__repr__", "__str__", "__len__")


def trees():
    return [(path, ast.parse(path.read_text())) for path in FILES]


def nodes():
    return [(f"{path.name}:{getattr(node, 'lineno', 0)}", node) for path, tree in trees() for node in ast.walk(tree)]


def top_names(tree):
    found = [node.name for node in tree.body if isinstance(node, (ast.FunctionDef, ast.ClassDef))]
    return found + [node.targets[0].id for node in tree.body if isinstance(node, ast.Assign)]


def imported_names(tree):
    return [name.name for node in tree.body if isinstance(node, ast.ImportFrom) for name in node.names]


class Language(unittest.TestCase):
    def test_files(self):
        self.assertTrue(FILES)
        for path in PACKAGE.rglob("*"):
            if "__pycache__" not in path.parts:
                self.assertRegex(path.name, r"^[a-z0-9_]+\.py$")
                self.assertFalse(path.stem in vars(builtins), path)

    def test_signs_and_sizes(self):
        for path in FILES:
            lines = path.read_text().split("\n")
            self.assertLessEqual(len(lines), 401, path)
            for line in lines:
                self.assertRegex(line, r"^[ -~]{0,120}$", path)

    def test_words_that_are_not_used(self):
        for path in FILES:
            words = re.findall(r"\w+", path.read_text())
            self.assertEqual(sorted(set(words) & set(UNUSED_WORDS)), [], path)
            self.assertIsNone(re.search("dataclass|overload|contextmanager", path.read_text()), path)

    def test_only_plain_nodes(self):
        for where, node in nodes():
            self.assertIsInstance(node, NODES, where)
            self.assertNotIsInstance(node, (ast.Div, ast.MatMult), where)
            if isinstance(node, ast.Constant):
                self.assertIn(type(node.value), (int, str, bool, type(None)), where)
            if isinstance(node, ast.Assign):
                self.assertEqual(len(node.targets), 1, where)
            if isinstance(node, ast.FunctionDef):
                self.assertLessEqual(node.end_lineno - node.lineno + 1, 40, where)
                self.assertEqual(node.decorator_list, [], where)

    def test_imports(self):
        for where, node in nodes():
            if isinstance(node, ast.ImportFrom):
                self.assertTrue(node.level == 0 and node.module.startswith("paperroll."), where)

    def test_no_two_files_draw_from_one_another(self):
        drawn = {path.stem: [node.module.split(".")[1] for node in ast.walk(tree) if isinstance(node, ast.ImportFrom)]
                 for path, tree in trees()}
        while drawn:
            free = [name for name in drawn if not set(drawn[name]) & set(drawn)]
            self.assertTrue(free, drawn)
            drawn = {name: drawn[name] for name in drawn if name not in free}

    def test_imports_from_the_file_that_defines_the_name(self):
        defined = {path.stem: top_names(tree) for path, tree in trees()}
        for where, node in nodes():
            if isinstance(node, ast.ImportFrom):
                for name in node.names:
                    self.assertIn(name.name, defined[node.module.split(".")[1]], where)
                    self.assertIsNone(name.asname, where)

    def test_each_name_once_at_the_top(self):
        for path, tree in trees():
            names = top_names(tree) + imported_names(tree)
            self.assertEqual(len(names), len(set(names)), path)

    def test_no_local_is_called_like_a_class_or_an_import(self):
        for path, tree in trees():
            taken = imported_names(tree) + [node.name for node in tree.body if isinstance(node, ast.ClassDef)]
            for node in ast.walk(tree):
                if isinstance(node, ast.arg):
                    self.assertNotIn(node.arg, taken, path)
                if isinstance(node, ast.Name) and isinstance(node.ctx, ast.Store):
                    self.assertNotIn(node.id, taken, path)

    def test_nothing_unused_is_drawn(self):
        for path, tree in trees():
            used = [node.id for node in ast.walk(tree) if isinstance(node, ast.Name)]
            self.assertEqual([name for name in imported_names(tree) if name not in used], [], path)

    def test_names(self):
        for where, node in nodes():
            bound = [getattr(node, key) for key in ("id", "arg", "attr", "name") if isinstance(getattr(node, key, 0), str)]
            for name in bound:
                self.assertNotIn(name, UNUSED_NAMES, where)
                self.assertTrue(name in TWO_UNDERSCORES or not name.startswith("_"), where)
            if isinstance(node, ast.Name) and node.id in vars(builtins):
                self.assertIn(node.id, BUILTINS, where)
                self.assertIsInstance(node.ctx, ast.Load, where)
            if isinstance(node, ast.arg):
                self.assertFalse(node.arg in vars(builtins), where)

    def test_methods(self):
        own = [node.name for where, node in nodes() if isinstance(node, ast.FunctionDef)]
        for where, node in nodes():
            if isinstance(node, ast.Call) and isinstance(node.func, ast.Attribute):
                self.assertIn(node.func.attr, METHODS + own, where)

    def test_no_name_is_a_method_and_a_value(self):
        methods = {part.name for where, node in nodes() if isinstance(node, ast.ClassDef) for part in node.body
                   if isinstance(part, ast.FunctionDef)}
        values = {node.attr for where, node in nodes() if isinstance(node, ast.Attribute)
                  and isinstance(node.ctx, ast.Store)}
        self.assertEqual(sorted(methods & values), [])


if __name__ == "__main__":
    unittest.main()
