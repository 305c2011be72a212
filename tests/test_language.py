"""The part of Python that the package keeps to: what of it can be seen rule by rule."""

import ast
import builtins
import pathlib
import re
import unittest

PACKAGE = pathlib.Path(__file__).resolve().parent.parent / "swingcounts"

NODES = (
    "Module Expr FunctionDef arguments arg ClassDef ImportFrom alias Return Assign AugAssign If While For Break "
    "Continue Pass Raise Try ExceptHandler Constant List Tuple Dict Name Load Store Attribute Subscript Slice Call "
    "keyword BinOp Add Sub Mult FloorDiv Mod BoolOp And Or UnaryOp Not USub Compare Eq NotEq Lt LtE Gt GtE Is IsNot "
    "In NotIn IfExp ListComp comprehension JoinedStr FormattedValue Lambda").split()
BUILTINS = (
    "len range enumerate zip min max sum abs sorted reversed int str bool list tuple dict set frozenset isinstance "
    "ord repr any all divmod Exception ValueError KeyError IndexError LookupError ZeroDivisionError").split()
METHODS = (
    "append clear copy count endswith extend find get index insert isalnum isalpha isdigit islower isspace isupper "
    "items join keys ljust lower lstrip partition pop remove replace reverse rfind rjust rpartition rsplit rstrip "
    "setdefault split splitlines startswith strip update upper values zfill bit_length").split()
NOT_NAMES = (
    "register mro elements open input version_info with_traceback add_note attrgetter breakpoint builtins compile "
    "copyright credits delattr dir eval exec exit gc getattr globals hasattr help id importlib license locals "
    "methodcaller os quit setattr super type vars sys format format_map chr print").split()
NOT_WORDS = re.compile(
    r"\b(type|typing|typing_extensions|enum|Enum|IntEnum|StrEnum|Flag|IntFlag|Generic|Protocol|ABC|ABCMeta|"
    r"namedtuple|NamedTuple|TypedDict|TYPE_CHECKING|abstractmethod)\b|dataclass|overload|contextmanager")
CHANGES = "append clear extend insert pop remove reverse setdefault update".split()


def files():
    return sorted(path for path in PACKAGE.rglob("*") if "__pycache__" not in path.parts)


def trees():
    return [(path, ast.parse(path.read_text())) for path in files()]


def nodes(kind):
    return [(path, node) for path, tree in trees() for node in ast.walk(tree) if isinstance(node, kind)]


def bound_names(tree):
    for node in ast.walk(tree):
        if isinstance(node, ast.Name) and isinstance(node.ctx, ast.Store):
            yield node.id
        elif isinstance(node, ast.arg):
            yield node.arg
        elif isinstance(node, (ast.FunctionDef, ast.ClassDef)):
            yield node.name


class Files(unittest.TestCase):
    def test_plain_names(self):
        self.assertEqual([p.name for p in files() if not re.fullmatch(r"[a-z][a-z0-9_]*\.py|__init__\.py", p.name)], [])

    def test_signs_and_sizes(self):
        for path in files():
            text = path.read_bytes().decode("ascii")
            self.assertEqual([c for c in text if c != "\n" and not " " <= c <= "~"], [], path)
            self.assertLessEqual(len(text.splitlines()), 400, path)
            self.assertEqual([line for line in text.splitlines() if len(line) > 120], [], path)

    def test_words_that_stand_nowhere(self):
        for path in files():
            self.assertIsNone(NOT_WORDS.search(path.read_text()), path)

    def test_imports_from_the_file_that_defines_the_name(self):
        for path, node in nodes(ast.ImportFrom):
            self.assertEqual((node.level, node.module.split(".")[0]), (0, "swingcounts"), path)
            source = ast.parse((PACKAGE.parent / (node.module.replace(".", "/") + ".py")).read_text())
            for name in node.names:
                self.assertIn(name.name, list(bound_names(source)), path)

    def test_top_of_a_file(self):
        kinds = (ast.ImportFrom, ast.FunctionDef, ast.ClassDef, ast.Assign)
        for path, tree in trees():
            self.assertIsNotNone(ast.get_docstring(tree), path)
            self.assertEqual([node for node in tree.body[1:] if not isinstance(node, kinds)], [], path)
            self.assertEqual([node for top in tree.body if isinstance(top, ast.Assign)
                              for node in ast.walk(top) if isinstance(node, (ast.Call, ast.ListComp))], [], path)


class Code(unittest.TestCase):
    def test_kinds_of_statements_and_values(self):
        for path, node in nodes(ast.AST):
            self.assertIn(node.__class__.__name__, NODES, f"{path}:{getattr(node, 'lineno', 0)}")

    def test_constants(self):
        for path, node in nodes(ast.Constant):
            self.assertIn(node.value.__class__.__name__, ("int", "str", "bool", "NoneType"), path)

    def test_functions(self):
        for path, node in nodes(ast.FunctionDef):
            self.assertLessEqual(node.end_lineno - node.lineno + 1, 40, f"{path}:{node.lineno}")
            plain = node.args
            self.assertEqual((node.decorator_list, plain.vararg, plain.kwarg, plain.kwonlyargs, plain.posonlyargs),
                             ([], None, None, [], []), f"{path}:{node.lineno}")

    def test_one_target(self):
        for path, node in nodes(ast.Assign):
            self.assertEqual(len(node.targets), 1, f"{path}:{node.lineno}")

    def test_names(self):
        for path, tree in trees():
            for name in bound_names(tree):
                self.assertTrue(name == "__init__" or re.fullmatch(r"[A-Za-z][A-Za-z0-9_]*", name), f"{path}: {name}")
                self.assertNotIn(name, dir(builtins), path)
                self.assertNotIn(name, NOT_NAMES, path)

    def test_each_name_once_at_a_files_top(self):
        for path, tree in trees():
            names = [name.name for node in tree.body if isinstance(node, ast.ImportFrom) for name in node.names]
            names += [node.name for node in tree.body if isinstance(node, (ast.FunctionDef, ast.ClassDef))]
            names += [node.targets[0].id for node in tree.body if isinstance(node, ast.Assign)]
            self.assertEqual(sorted(names), sorted(set(names)), path)

    def test_pythons_own_names(self):
        for path, node in nodes(ast.Name):
            if node.id in dir(builtins):
                self.assertIn(node.id, BUILTINS, f"{path}:{node.lineno}")

    def test_methods_are_listed_or_own(self):
        own = [node.name for _, node in nodes(ast.FunctionDef)]
        for path, node in nodes(ast.Call):
            if isinstance(node.func, ast.Attribute):
                self.assertIn(node.func.attr, METHODS + own, f"{path}:{node.lineno}")

    def test_no_name_is_a_method_and_a_value(self):
        methods = [node.name for _, top in nodes(ast.ClassDef) for node in top.body if isinstance(node, ast.FunctionDef)]
        values = [node.attr for _, node in nodes(ast.Attribute) if isinstance(node.ctx, ast.Store)]
        self.assertEqual(sorted(set(methods) & set(values)), [])
        self.assertEqual(sorted(set(values) & set(CHANGES + NOT_NAMES + ["items", "keys", "values", "sort"])), [])

    def test_what_a_file_keeps_at_its_top_is_not_changed(self):
        for path, tree in trees():
            tops = [node.targets[0].id for node in tree.body if isinstance(node, ast.Assign)]
            for node in ast.walk(tree):
                if isinstance(node, ast.Subscript) and isinstance(node.ctx, ast.Store):
                    self.assertNotIn(getattr(node.value, "id", None), tops, f"{path}:{node.lineno}")
                if isinstance(node, ast.Attribute) and node.attr in CHANGES:
                    self.assertNotIn(getattr(node.value, "id", None), tops, f"{path}:{node.lineno}")


if __name__ == "__main__":
    unittest.main()
