"""The package's files keep to the part of Python that they are to be written in.

Each test bears the numbers of the rules that it holds the files against, as far
as a walk through a file's tree can see them.
"""

import ast
import builtins
import pathlib
import re
import unittest

import headcolumns

FOLDER = pathlib.Path(headcolumns.__file__).parent
PATHS = [path for path in sorted(FOLDER.rglob("*")) if "__pycache__" not in path.parts]

OWN_NAMES = set(
    "len range enumerate zip min max sum abs sorted reversed int str bool list tuple dict set frozenset isinstance ord "
    "repr any all divmod Exception ValueError TypeError KeyError IndexError LookupError ZeroDivisionError "
    "ArithmeticError OverflowError RuntimeError NotImplementedError AttributeError StopIteration".split()
)
METHODS = set(
    "append clear copy count endswith extend find get index insert isalnum isalpha isdigit islower isspace isupper "
    "items join keys ljust lower lstrip partition pop remove replace reverse rfind rjust rpartition rsplit rstrip "
    "setdefault split splitlines startswith strip update upper values zfill bit_length".split()
)
STATEMENTS = (
    ast.Assign, ast.AugAssign, ast.If, ast.While, ast.For, ast.Return, ast.Break, ast.Continue, ast.Pass, ast.Raise,
    ast.Try, ast.Expr, ast.FunctionDef, ast.ClassDef, ast.ImportFrom,
)
EXPRESSIONS = (
    ast.Constant, ast.Name, ast.List, ast.Tuple, ast.Dict, ast.BinOp, ast.UnaryOp, ast.BoolOp, ast.Compare, ast.IfExp,
    ast.Call, ast.Attribute, ast.Subscript, ast.Slice, ast.ListComp, ast.JoinedStr, ast.FormattedValue, ast.Lambda,
)
WORDS = set(
    "type typing typing_extensions enum Enum IntEnum StrEnum Flag IntFlag Generic Protocol ABC ABCMeta namedtuple "
    "NamedTuple TypedDict TYPE_CHECKING abstractmethod".split()
)
NOWHERE = set("register mro elements open input version_info with_traceback add_note format format_map".split())
VALUES_TOO = set("count index title find get join lower upper split strip copy add".split())


def package_name(path):
    """The full name of a file of the package."""
    return ".".join(["headcolumns", *path.relative_to(FOLDER).with_suffix("").parts])


class File:
    """A file of the package: its text, its tree and the nodes of it."""

    def __init__(self, path):
        self.path = path
        self.text = path.read_text(encoding="utf-8")
        self.tree = ast.parse(self.text)
        self.nodes = list(ast.walk(self.tree))
        self.imports = [node for node in self.nodes if isinstance(node, ast.ImportFrom)]
        self.imported = {each.name for node in self.imports for each in node.names}
        self.classes = {node.name for node in self.nodes if isinstance(node, ast.ClassDef)}
        self.defs = [node for node in self.nodes if isinstance(node, ast.FunctionDef)]

    def top_names(self):
        """The names that are bound at the file's top, each as often as it is."""
        found = []
        for node in self.tree.body:
            if isinstance(node, (ast.FunctionDef, ast.ClassDef)):
                found.append(node.name)
            elif isinstance(node, ast.Assign):
                found.append(node.targets[0].id)
            elif isinstance(node, ast.ImportFrom):
                found += [each.name for each in node.names]
        return found

    def locals(self):
        """The names of parameters and of what is assigned anywhere."""
        found = {node.arg for node in self.nodes if isinstance(node, ast.arg)}
        return found | {node.id for node in self.nodes if isinstance(node, ast.Name) and isinstance(node.ctx, ast.Store)}


FILES = [File(path) for path in PATHS if path.suffix == ".py"]


class Language(unittest.TestCase):
    """The rules, file by file."""

    def test_l1_l14_files_and_signs(self):
        self.assertEqual([path for path in PATHS if not re.fullmatch(r"[a-z0-9_]+\.py", path.name)], [])
        self.assertTrue((FOLDER / "__init__.py").is_file())
        for file in FILES:
            self.assertNotIn(file.path.stem, set(dir(builtins)) | {"test", "tests", "testing", "site", "conftest"})
            self.assertEqual(set(re.findall(r"[^ -~\n]", file.text)), set())

    def test_l2_l16_imports(self):
        drawn = {}
        for file in FILES:
            self.assertFalse(any(isinstance(node, ast.Import) for node in file.nodes))
            drawn[package_name(file.path)] = [node.module for node in file.imports]
            for node in file.imports:
                self.assertIn(node, file.tree.body)
                self.assertEqual((node.level, node.module.split(".")[0]), (0, "headcolumns"))
                other = [each for each in FILES if package_name(each.path) == node.module][0]
                own = set(other.top_names()) - other.imported
                self.assertTrue(all(each.name in own and each.asname is None for each in node.names))
        while drawn:
            free = [name for name in drawn if not any(other in drawn for other in drawn[name])]
            self.assertNotEqual(free, [], "files draw from one another")
            drawn = {name: drawn[name] for name in drawn if name not in free}

    def test_l3_l15_the_top_of_a_file(self):
        for file in FILES:
            self.assertIsNotNone(ast.get_docstring(file.tree))
            for node in file.tree.body[1:]:
                self.assertIsInstance(node, (ast.ImportFrom, ast.FunctionDef, ast.ClassDef, ast.Assign))
                if isinstance(node, ast.Assign):
                    ast.literal_eval(node.value)
            names = file.top_names()
            self.assertEqual(len(names), len(set(names)))
            self.assertEqual(file.locals() & (file.classes | file.imported | set(dir(builtins))), set())

    def test_l4_l5_l21_functions_and_classes(self):
        for file in FILES:
            for node in file.defs:
                self.assertEqual((node.decorator_list, node.returns, node.args.defaults), ([], None, []))
                self.assertEqual((node.args.vararg, node.args.kwarg, node.args.kwonlyargs), (None, None, []))
                self.assertEqual(node.args.posonlyargs, [])
                self.assertTrue(all(each.annotation is None for each in node.args.args))
            for node in file.nodes:
                if isinstance(node, ast.ClassDef):
                    self.assertEqual((node.decorator_list, node.keywords), ([], []))
                    self.assertLessEqual(len(node.bases), 1)
                    self.assertTrue(all(isinstance(each, ast.FunctionDef) for each in node.body[1:]))
                    methods = [each.name for each in node.body[1:]]
                    self.assertEqual(len(methods), len(set(methods)))

    def test_l6_l7_statements_and_expressions(self):
        for file in FILES:
            for node in file.nodes:
                if isinstance(node, ast.stmt):
                    self.assertIsInstance(node, STATEMENTS)
                if isinstance(node, ast.expr):
                    self.assertIsInstance(node, EXPRESSIONS)
                self.assertNotIsInstance(node, ast.Div)
                if isinstance(node, ast.Assign):
                    self.assertEqual(len(node.targets), 1)
                if isinstance(node, (ast.For, ast.While)):
                    self.assertEqual(node.orelse, [])
                if isinstance(node, ast.Constant):
                    self.assertIsInstance(node.value, (int, str, type(None)))
                if isinstance(node, ast.ListComp):
                    self.assertEqual(len(node.generators), 1)
                    self.assertLessEqual(len(node.generators[0].ifs), 1)
                if isinstance(node, ast.Expr):
                    self.assertIsInstance(node.value, (ast.Call, ast.Constant))

    def test_l8_names_of_pythons_own(self):
        for file in FILES:
            bound = file.locals() | set(file.top_names())
            for node in file.nodes:
                if isinstance(node, ast.Name) and node.id not in bound:
                    self.assertIn(node.id, OWN_NAMES)

    def test_l10_sizes(self):
        for file in FILES:
            rows = file.text.split("\n")
            self.assertLessEqual(len(rows), 399)
            self.assertLessEqual(max(len(row) for row in rows), 120)
            for node in file.defs:
                self.assertLessEqual(node.end_lineno - node.lineno + 1, 40)

    def test_l12_l17_names_and_words(self):
        for file in FILES:
            names = file.locals() | set(file.top_names()) | {node.name for node in file.defs}
            names |= {node.attr for node in file.nodes if isinstance(node, ast.Attribute)}
            for name in names - {"__init__"}:
                self.assertRegex(name, r"^[A-Za-z0-9][A-Za-z0-9_]*$")
            self.assertEqual(names & NOWHERE, set())
            self.assertEqual(set(re.findall(r"\w+", file.text)) & WORDS, set())
            self.assertIsNone(re.search("dataclass|overload|contextmanager", file.text))

    def test_l16_functions_of_the_interface(self):
        at_top = [(package_name(file.path), name) for file in FILES for name in file.top_names() if name == "answers"]
        self.assertEqual(at_top, [("headcolumns.setter", "answers")])

    def test_l18_l25_l26_methods_and_values(self):
        methods = set()
        values = set()
        called = set()
        for file in FILES:
            for node in file.nodes:
                if isinstance(node, ast.ClassDef):
                    methods |= {each.name for each in node.body if isinstance(each, ast.FunctionDef)}
                if isinstance(node, ast.Attribute) and isinstance(node.ctx, ast.Store):
                    values.add(node.attr)
                if isinstance(node, ast.Call) and isinstance(node.func, ast.Attribute):
                    called.add(node.func.attr)
        self.assertEqual(methods & values, set())
        self.assertEqual(called - methods - METHODS, set())
        taken = {name for kind in (str, int, list, dict, set, bytes, BaseException) for name in dir(kind)}
        self.assertEqual(methods & taken, {"__init__"})
        self.assertEqual((values & taken) - VALUES_TOO, set())

    def test_l20_l22_l27_is_keywords_and_texts(self):
        for file in FILES:
            for node in file.nodes:
                if isinstance(node, ast.Compare):
                    for sign, other in zip(node.ops, node.comparators):
                        if isinstance(sign, (ast.Is, ast.IsNot)):
                            self.assertIn(getattr(other, "value", 0), (None, True, False))
                if isinstance(node, ast.keyword):
                    self.assertIn(node.arg, ("key", "reverse", "default", "start", "strict"))
                if isinstance(node, ast.Constant) and isinstance(node.value, str):
                    self.assertNotIn("%", node.value)


if __name__ == "__main__":
    unittest.main()
