"""The rules of ../shared/LANGUAGE.md that can be seen from a file's text and its syntax tree."""

import ast
import builtins
import pathlib
import re
import unittest

PACKAGE = pathlib.Path(__file__).resolve().parent.parent / "landregister"
ALLOWED_NODES = (
    ast.Module, ast.ImportFrom, ast.alias, ast.FunctionDef, ast.ClassDef, ast.arguments, ast.arg, ast.Assign,
    ast.AugAssign, ast.If, ast.While, ast.For, ast.Return, ast.Break, ast.Continue, ast.Pass, ast.Raise, ast.Expr,
    ast.Constant, ast.List, ast.Tuple, ast.Dict, ast.BinOp, ast.UnaryOp, ast.BoolOp, ast.Compare, ast.IfExp, ast.Call,
    ast.Attribute, ast.Subscript, ast.Slice, ast.ListComp, ast.comprehension, ast.Name, ast.keyword,
    ast.expr_context, ast.operator, ast.unaryop, ast.boolop, ast.cmpop)
FORBIDDEN_NODES = (ast.Div, ast.MatMult, ast.Is, ast.IsNot)
OWN_NAMES = """len range enumerate zip min max sum abs sorted reversed int str bool list tuple dict isinstance ord repr
    any all divmod Exception ValueError KeyError IndexError LookupError ZeroDivisionError""".split()
METHODS = """append clear copy count endswith extend find get index insert isalnum isalpha isdigit islower isspace isupper
    items join keys ljust lower lstrip partition pop remove replace reverse rfind rjust rpartition rsplit rstrip
    setdefault split splitlines startswith strip update upper values zfill bit_length""".split()
UNUSED_NAMES = "register mro elements open input version_info with_traceback add_note".split()
UNUSED_WORDS = re.compile(
    r"\b(type|typing|typing_extensions|enum|Enum|IntEnum|StrEnum|Flag|IntFlag|Generic|Protocol|ABC|ABCMeta|namedtuple"
    r"|NamedTuple|TypedDict|TYPE_CHECKING|abstractmethod)\b|dataclass|overload|contextmanager")
PYTHONS_OWN = [name for kind in (str, int, list, dict, set, bytes) for name in vars(kind)]


def files():
    return sorted(PACKAGE.glob("*.py"))


def trees():
    return [(path.name, ast.parse(path.read_text())) for path in files()]


def nodes_of(kinds):
    return [(name, node) for name, tree in trees() for node in ast.walk(tree) if isinstance(node, kinds)]


class FilesTest(unittest.TestCase):
    def test_nothing_else_lies_in_the_package(self):
        found = [path.name for path in PACKAGE.iterdir() if path.name != "__pycache__"]
        self.assertIn("__init__.py", found)
        for name in found:
            self.assertRegex(name, r"^(__init__|[a-z][a-z0-9_]*)\.py$")
            self.assertNotIn(name[:-3], [own for own in vars(builtins) if not own.startswith("__")])

    def test_signs_and_sizes(self):
        for path in files():
            text = path.read_text()
            self.assertRegex(text, r"\A[ -~\n]*\Z", path.name)
            self.assertLessEqual(len(text.splitlines()), 400, path.name)
            self.assertLessEqual(max(len(row) for row in text.splitlines()), 120, path.name)
            self.assertIsNone(UNUSED_WORDS.search(text), path.name)

    def test_functions_are_short(self):
        for name, node in nodes_of(ast.FunctionDef):
            self.assertLessEqual(node.end_lineno - node.lineno + 1, 40, (name, node.name))


class SyntaxTest(unittest.TestCase):
    def test_only_what_the_rules_list(self):
        for name, node in nodes_of(ast.AST):
            where = (name, getattr(node, "lineno", 0), node)
            self.assertIsInstance(node, ALLOWED_NODES, where)
            self.assertNotIsInstance(node, FORBIDDEN_NODES, where)
            if isinstance(node, ast.Constant):
                self.assertIn(type(node.value), (int, str, bool, type(None)), where)

    def test_statements(self):
        for name, node in nodes_of((ast.Assign, ast.While, ast.For, ast.FunctionDef, ast.ClassDef, ast.comprehension)):
            where = (name, getattr(node, "lineno", 0))
            if isinstance(node, ast.Assign):
                self.assertEqual(len(node.targets), 1, where)
                self.assertNotIsInstance(node.targets[0], (ast.Tuple, ast.List), where)
            if isinstance(node, (ast.While, ast.For)):
                self.assertEqual(node.orelse, [], where)
            if isinstance(node, (ast.FunctionDef, ast.ClassDef)):
                self.assertEqual(node.decorator_list, [], where)
            if isinstance(node, ast.ClassDef):
                self.assertLessEqual(len(node.bases), 1, where)
                self.assertTrue(all(isinstance(part, ast.FunctionDef) for part in node.body), where)
            if isinstance(node, ast.comprehension):
                self.assertLessEqual(len(node.ifs), 1, where)

    def test_the_top_of_a_file(self):
        for name, tree in trees():
            self.assertIsNotNone(ast.get_docstring(tree), name)
            for part in tree.body[1:]:
                self.assertIsInstance(part, (ast.ImportFrom, ast.FunctionDef, ast.ClassDef, ast.Assign), name)

    def test_imports_are_the_packages_own(self):
        drawn = {path.stem: [] for path in files()}
        for name, node in nodes_of(ast.ImportFrom):
            self.assertEqual(node.level, 0, name)
            self.assertTrue(node.module.startswith("landregister."), name)
            self.assertNotIn("*", [part.name for part in node.names], name)
            drawn[name[:-3]].append(node.module.split(".")[1])
        while drawn:
            free = [stem for stem in drawn if not [other for other in drawn[stem] if other in drawn]]
            self.assertNotEqual(free, [], "files draw from one another")
            for stem in free:
                del drawn[stem]


class NamesTest(unittest.TestCase):
    def test_names(self):
        for name, tree in trees():
            tops = [part.name for part in tree.body if isinstance(part, (ast.FunctionDef, ast.ClassDef))]
            tops += [part.targets[0].id for part in tree.body if isinstance(part, ast.Assign)]
            drawn = [part.name for node in tree.body if isinstance(node, ast.ImportFrom) for part in node.names]
            self.assertEqual(len(tops + drawn), len(set(tops + drawn)), name)
            classes = [part.name for part in tree.body if isinstance(part, ast.ClassDef)]
            locals_here = [node.arg for node in ast.walk(tree) if isinstance(node, ast.arg)]
            locals_here += [node.id for node in ast.walk(tree)
                            if isinstance(node, ast.Name) and isinstance(node.ctx, ast.Store)]
            for bound in locals_here:
                self.assertRegex(bound, r"^[A-Za-z][A-Za-z0-9_]*$", name)
                self.assertNotIn(bound, classes + drawn + UNUSED_NAMES, name)
                self.assertFalse(hasattr(builtins, bound), (name, bound))
            for node in ast.walk(tree):
                if isinstance(node, ast.Name) and hasattr(builtins, node.id):
                    self.assertIn(node.id, OWN_NAMES, (name, node.lineno))

    def test_methods_and_values(self):
        methods = [part.name for name, node in nodes_of(ast.ClassDef) for part in node.body]
        values = [node.attr for name, node in nodes_of(ast.Attribute) if isinstance(node.ctx, ast.Store)]
        self.assertEqual(set(methods) & set(values), set())
        for own in set(methods + values) - {"__init__"}:
            self.assertRegex(own, r"^[A-Za-z][A-Za-z0-9_]*$")
            self.assertNotIn(own, PYTHONS_OWN + UNUSED_NAMES)
        for name, node in nodes_of(ast.Attribute):
            self.assertIn(node.attr, methods + values + METHODS, (name, node.lineno))

    def test_classes_are_called_or_are_bases(self):
        classes = [node.name for name, node in nodes_of(ast.ClassDef)]
        for name, node in nodes_of(ast.Attribute):
            if isinstance(node.value, ast.Name) and node.value.id in classes:
                self.assertEqual(node.attr, "__init__", (name, node.lineno))
