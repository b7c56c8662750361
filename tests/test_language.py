"""The rules of the program's language that can be seen in the files one by one."""

import ast
import builtins
import pathlib
import re
import unittest

PACKAGE = pathlib.Path(__file__).resolve().parent.parent / "timewent"

OWN_NAMES = set("""
    len range enumerate zip min max sum abs sorted reversed int str bool list tuple dict set frozenset isinstance
    ord repr any all divmod Exception ValueError TypeError KeyError IndexError LookupError ZeroDivisionError
    ArithmeticError OverflowError RuntimeError NotImplementedError StopIteration
""".split())

METHODS_OF_CLASSES = {"__init__", "__eq__", "__repr__", "__str__", "__len__"}

WORDS_NOT_USED = re.compile(
    r"\b(type|typing|typing_extensions|enum|Enum|IntEnum|StrEnum|Flag|IntFlag|Generic|Protocol|ABC|ABCMeta|namedtuple"
    r"|NamedTuple|TypedDict|TYPE_CHECKING|abstractmethod)\b|dataclass|overload|contextmanager")

NODES_NOT_USED = (
    ast.With, ast.Match, ast.Delete, ast.Global, ast.Nonlocal, ast.Assert, ast.Yield, ast.YieldFrom, ast.Await,
    ast.AsyncFunctionDef, ast.AsyncFor, ast.AsyncWith, ast.SetComp, ast.DictComp, ast.GeneratorExp, ast.NamedExpr,
    ast.Starred, ast.Div, ast.MatMult, ast.AnnAssign, ast.Import)


def sources():
    return sorted(PACKAGE.glob("*.py"))


def nodes():
    return [(path.name, node) for path in sources() for node in ast.walk(ast.parse(path.read_text()))]


class Files(unittest.TestCase):
    def test_the_package_holds_plain_files_alone(self):
        names = sorted(path.name for path in PACKAGE.iterdir() if path.name != "__pycache__")
        self.assertEqual(names, [path.name for path in sources()])
        self.assertIn("__init__.py", names)
        for name in names:
            self.assertRegex(name, r"^(__init__|[a-z][a-z0-9_]*)\.py$")

    def test_signs_sizes_and_words(self):
        for path in sources():
            text = path.read_bytes().decode("ascii")
            self.assertRegex(text, r"^[ -~\n]*$")
            lines = text.split("\n")
            self.assertLessEqual(len(lines), 400)
            self.assertLessEqual(max(len(line) for line in lines), 120)
            self.assertIsNone(WORDS_NOT_USED.search(text), path.name)

    def test_functions_are_small(self):
        for name, node in nodes():
            if isinstance(node, ast.FunctionDef):
                self.assertLessEqual(node.end_lineno - node.lineno + 1, 40, f"{name}: {node.name}")


class Forms(unittest.TestCase):
    def test_only_the_packages_own_is_imported(self):
        for name, node in nodes():
            if isinstance(node, ast.ImportFrom):
                self.assertEqual(node.level, 0, name)
                self.assertRegex(node.module, r"^timewent\.[a-z0-9_]+$")

    def test_no_form_outside_the_language(self):
        for name, node in nodes():
            self.assertNotIsInstance(node, NODES_NOT_USED, name)
            if isinstance(node, (ast.For, ast.While)):
                self.assertEqual(node.orelse, [], name)
            if isinstance(node, ast.Assign):
                self.assertEqual(len(node.targets), 1, name)
            if isinstance(node, (ast.FunctionDef, ast.ClassDef)):
                self.assertEqual(node.decorator_list, [], name)
            if isinstance(node, ast.Constant):
                self.assertNotIsInstance(node.value, (float, bytes, complex), name)

    def test_no_name_is_a_method_and_a_value_of_an_object(self):
        methods = set()
        values = set()
        for name, node in nodes():
            if isinstance(node, ast.ClassDef):
                methods.update(part.name for part in node.body if isinstance(part, ast.FunctionDef))
            if isinstance(node, ast.Attribute) and isinstance(node.ctx, ast.Store):
                values.add(node.attr)
        self.assertEqual(methods & values, set())

    def test_comprehensions_have_one_for_and_at_most_one_if(self):
        for name, node in nodes():
            if isinstance(node, ast.ListComp):
                self.assertEqual(len(node.generators), 1, name)
                self.assertLessEqual(len(node.generators[0].ifs), 1, name)

    def test_names_are_plain_and_no_built_in_is_used_or_renamed_beyond_the_list(self):
        for name, node in nodes():
            if isinstance(node, ast.Name):
                used, bound = node.id, isinstance(node.ctx, ast.Store)
            elif isinstance(node, ast.arg):
                used, bound = node.arg, True
            elif isinstance(node, (ast.FunctionDef, ast.ClassDef)):
                used, bound = node.name, False
            elif isinstance(node, ast.Attribute):
                used, bound = node.attr, False
            else:
                continue
            if used not in METHODS_OF_CLASSES:
                self.assertRegex(used, r"^[A-Za-z][A-Za-z0-9_]*$")
            if isinstance(node, (ast.Name, ast.arg)) and hasattr(builtins, used):
                self.assertIn(used, OWN_NAMES, name)
                self.assertFalse(bound, f"{name}: {used}")


if __name__ == "__main__":
    unittest.main()
