"""The form of the package's files: those rules of ../shared/LANGUAGE.md that a short look can hold."""

import ast
import builtins
import os
import re
import unittest

import pageslates

FOLDER = os.path.dirname(os.path.abspath(pageslates.__file__))

ALLOWED_BUILTINS = set(
    "len range enumerate zip min max sum abs sorted reversed int str bool list tuple dict set frozenset isinstance ord "
    "repr any all divmod Exception ValueError TypeError KeyError IndexError LookupError ZeroDivisionError "
    "ArithmeticError OverflowError RuntimeError NotImplementedError AttributeError StopIteration".split()
)

UNWANTED_NODES = (
    ast.With, ast.Match, ast.Delete, ast.Global, ast.Nonlocal, ast.Assert, ast.Yield, ast.YieldFrom, ast.Await,
    ast.AsyncFunctionDef, ast.AsyncFor, ast.AsyncWith, ast.SetComp, ast.DictComp, ast.GeneratorExp, ast.NamedExpr,
    ast.Starred, ast.Div, ast.MatMult, ast.Import, ast.AnnAssign,
)

UNWANTED_NAMES = set(
    "register mro elements open input version_info with_traceback add_note id sys os format format_map".split()
)

UNWANTED_WORDS = re.compile(
    r"\b(type|typing|typing_extensions|enum|Enum|IntEnum|StrEnum|Flag|IntFlag|Generic|Protocol|ABC|ABCMeta|namedtuple"
    r"|NamedTuple|TypedDict|TYPE_CHECKING|abstractmethod)\b|dataclass|overload|contextmanager"
)

TOP_LEVEL = (ast.ImportFrom, ast.FunctionDef, ast.ClassDef, ast.Assign, ast.Expr)


def sources():
    """Tell name, text and tree of each file of the package."""
    for name in sorted(os.listdir(FOLDER)):
        if name != "__pycache__":
            with open(os.path.join(FOLDER, name), encoding="utf-8", newline="") as file:
                text = file.read()
            yield name, text, ast.parse(text)


def nodes():
    """Tell each node of each file, with the file's name and the node's row."""
    for name, _, tree in sources():
        for node in ast.walk(tree):
            yield f"{name}:{getattr(node, 'lineno', 0)}", node


def bound_names(tree):
    """Tell every name that is given to something in a file."""
    for node in ast.walk(tree):
        if isinstance(node, ast.Name) and isinstance(node.ctx, ast.Store):
            yield node.id
        elif isinstance(node, ast.arg):
            yield node.arg
        elif isinstance(node, (ast.FunctionDef, ast.ClassDef)):
            yield node.name


class Language(unittest.TestCase):
    def test_files(self):
        names = [name for name, _, _ in sources()]
        self.assertIn("__init__.py", names)
        for name in names:
            self.assertRegex(name, r"^(__init__|[a-z][a-z0-9_]*)\.py$")

    def test_signs_and_sizes(self):
        for name, text, _ in sources():
            self.assertRegex(text, r"\A[\n -~]*\Z", name)
            self.assertLessEqual(text.count("\n"), 399, name)
            self.assertLessEqual(max(map(len, text.split("\n"))), 120, name)
        for place, node in nodes():
            if isinstance(node, ast.FunctionDef):
                self.assertLessEqual(node.end_lineno - node.lineno + 1, 40, place)

    def test_words(self):
        for name, text, _ in sources():
            self.assertIsNone(UNWANTED_WORDS.search(text), name)

    def test_imports(self):
        for place, node in nodes():
            if isinstance(node, ast.ImportFrom):
                self.assertEqual(node.level, 0, place)
                self.assertTrue(node.module.startswith("pageslates."), place)
                self.assertNotIn("*", [alias.name for alias in node.names], place)

    def test_top_level(self):
        for name, _, tree in sources():
            self.assertIsNotNone(ast.get_docstring(tree), name)
            for node in tree.body:
                self.assertIsInstance(node, TOP_LEVEL, name)

    def test_statements_and_expressions(self):
        for place, node in nodes():
            self.assertNotIsInstance(node, UNWANTED_NODES, place)
            if isinstance(node, ast.Assign):
                self.assertEqual(len(node.targets), 1, place)
            if isinstance(node, (ast.For, ast.While)):
                self.assertEqual(node.orelse, [], place)
            if isinstance(node, (ast.FunctionDef, ast.ClassDef)):
                self.assertEqual(node.decorator_list, [], place)
            if isinstance(node, ast.Constant):
                self.assertNotIsInstance(node.value, (float, complex, bytes), place)

    def test_names(self):
        for name, _, tree in sources():
            for bound in set(bound_names(tree)) - {"__init__"}:
                self.assertRegex(bound, r"^[A-Za-z][A-Za-z0-9_]*$", name)
                self.assertNotIn(bound, dir(builtins), name)
        for place, node in nodes():
            if isinstance(node, ast.Name):
                self.assertNotIn(node.id, UNWANTED_NAMES, place)
                if node.id in dir(builtins):
                    self.assertIn(node.id, ALLOWED_BUILTINS, place)
            if isinstance(node, ast.Attribute):
                self.assertNotIn(node.attr, UNWANTED_NAMES, place)

    def test_locals_are_not_called_like_imports_or_classes(self):
        for name, _, tree in sources():
            taken = {alias.asname or alias.name for node in ast.walk(tree) if isinstance(node, ast.ImportFrom)
                     for alias in node.names}
            taken |= {node.name for node in ast.walk(tree) if isinstance(node, ast.ClassDef)}
            for function in ast.walk(tree):
                if isinstance(function, (ast.FunctionDef, ast.Lambda)):
                    own = {node.arg for node in ast.walk(function) if isinstance(node, ast.arg)}
                    own |= {node.id for node in ast.walk(function)
                            if isinstance(node, ast.Name) and isinstance(node.ctx, ast.Store)}
                    self.assertEqual(own & taken, set(), name)

    def test_functions_of_the_interface_stand_once(self):
        places = [name for name, _, tree in sources() for node in tree.body
                  if isinstance(node, (ast.FunctionDef, ast.ClassDef)) and node.name == "answers"]
        self.assertEqual(places, ["slates.py"])

    def test_no_two_files_draw_from_one_another(self):
        drawn = {name[:-3]: {node.module.split(".")[1] for node in tree.body if isinstance(node, ast.ImportFrom)}
                 for name, _, tree in sources()}
        while drawn:
            free = [name for name, others in drawn.items() if not others & set(drawn)]
            self.assertNotEqual(free, [], drawn)
            for name in free:
                drawn.pop(name)


if __name__ == "__main__":
    unittest.main()
