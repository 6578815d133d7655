"""The package's own files, held against those rows of LANGUAGE.md that can be read off the code."""

import ast
import builtins
import pathlib
import re
import unittest

PACKAGE = pathlib.Path(__file__).resolve().parent.parent / "movedcases"

STATEMENTS = (
    ast.Assign, ast.AugAssign, ast.If, ast.While, ast.For, ast.Return, ast.Break, ast.Continue, ast.Pass, ast.Raise,
    ast.Try, ast.Expr, ast.FunctionDef, ast.ClassDef, ast.ImportFrom)
EXPRESSIONS = (
    ast.BinOp, ast.UnaryOp, ast.BoolOp, ast.Compare, ast.IfExp, ast.Call, ast.Attribute, ast.Subscript, ast.Slice,
    ast.ListComp, ast.JoinedStr, ast.FormattedValue, ast.Constant, ast.List, ast.Tuple, ast.Dict, ast.Name, ast.Lambda)
OWN_NAMES = set("""
    len range enumerate zip min max sum abs sorted reversed int str bool list tuple dict set frozenset isinstance ord
    repr any all divmod Exception ValueError TypeError KeyError IndexError LookupError ZeroDivisionError
    ArithmeticError OverflowError RuntimeError NotImplementedError AttributeError StopIteration""".split())
METHODS = set("""
    append clear copy count endswith extend find get index insert isalnum isalpha isdigit islower isspace isupper items
    join keys ljust lower lstrip partition pop remove replace reverse rfind rjust rpartition rsplit rstrip setdefault
    split splitlines startswith strip update upper values zfill bit_length""".split())
UNUSED_WORDS = """
    type typing typing_extensions enum Enum IntEnum StrEnum Flag IntFlag Generic Protocol ABC ABCMeta namedtuple
    NamedTuple TypedDict TYPE_CHECKING abstractmethod""".split()
UNUSED_NAMES = set("""
    register mro elements open input version_info with_traceback add_note attrgetter breakpoint builtins compile
    copyright credits delattr dir eval exec exit gc getattr globals hasattr help id importlib license locals
    methodcaller os quit setattr super sys vars __name__ chr print""".split())


def bound_names(tree):
    """Every name that a file gives a value or a meaning."""
    found = set()
    for node in ast.walk(tree):
        if isinstance(node, ast.Name) and isinstance(node.ctx, ast.Store):
            found.add(node.id)
        elif isinstance(node, ast.arg):
            found.add(node.arg)
        elif isinstance(node, (ast.FunctionDef, ast.ClassDef)):
            found.add(node.name)
        elif isinstance(node, ast.alias):
            found.add(node.name)
    return found


def drawn_names(tree):
    """The classes and imports of a file."""
    found = {part.name for part in tree.body if isinstance(part, ast.ClassDef)}
    return found | {node.name for node in ast.walk(tree) if isinstance(node, ast.alias)}


def names_within(tree):
    """The parameters and locals of a file's functions."""
    functions = [node for node in ast.walk(tree) if isinstance(node, ast.FunctionDef)]
    return {name for function in functions for name in bound_names(function)} - {function.name for function in functions}


class Language(unittest.TestCase):
    def files(self):
        for path in sorted(PACKAGE.glob("*.py")):
            text = path.read_text(encoding="ascii")
            yield path, text, ast.parse(text, path.name)

    def test_files(self):
        names = sorted(path.name for path in PACKAGE.iterdir() if path.name != "__pycache__")
        self.assertIn("__init__.py", names)
        for name in names:
            self.assertRegex(name, r"^[a-z_0-9]+\.py$")

    def test_signs_words_and_size(self):
        for path, text, tree in self.files():
            lines = text.split("\n")
            self.assertLessEqual(len(lines), 400)
            self.assertLessEqual(max(len(line) for line in lines), 120)
            self.assertRegex(text, r"\A[ -~\n]*\Z")
            self.assertEqual([word for word in UNUSED_WORDS if re.search(rf"\b{word}\b", text)], [])
            self.assertNotRegex(text, "dataclass|overload|contextmanager")
            for node in ast.walk(tree):
                if isinstance(node, ast.FunctionDef):
                    self.assertLessEqual(node.end_lineno - node.lineno + 1, 40, node.name)

    def test_statements_and_expressions(self):
        for path, text, tree in self.files():
            for node in ast.walk(tree):
                if isinstance(node, ast.stmt):
                    self.assertIsInstance(node, STATEMENTS, node.lineno if hasattr(node, "lineno") else None)
                if isinstance(node, ast.expr):
                    self.assertIsInstance(node, EXPRESSIONS, ast.unparse(node))
                if isinstance(node, (ast.For, ast.While)):
                    self.assertEqual(node.orelse, [])
                if isinstance(node, ast.Assign):
                    self.assertEqual(len(node.targets), 1)
                    self.assertNotIsInstance(node.targets[0], (ast.Tuple, ast.List))
                if isinstance(node, ast.ListComp):
                    self.assertEqual(len(node.generators), 1)
                    self.assertLessEqual(len(node.generators[0].ifs), 1)
                if isinstance(node, (ast.FunctionDef, ast.ClassDef)):
                    self.assertEqual(node.decorator_list, [])
                if isinstance(node, ast.Constant):
                    self.assertIsInstance(node.value, (int, str, bool, type(None)))
                self.assertNotIsInstance(node, (ast.Div, ast.MatMult))

    def test_names(self):
        python_names = set(dir(builtins)) | UNUSED_NAMES
        for path, text, tree in self.files():
            bound = bound_names(tree)
            self.assertEqual(bound & python_names, set())
            self.assertEqual(names_within(tree) & drawn_names(tree), set())
            for name in bound - {"__init__"}:
                self.assertRegex(name, r"^[A-Za-z][A-Za-z0-9_]*$")
            for node in ast.walk(tree):
                if isinstance(node, ast.Name):
                    self.assertIn(node.id, bound | OWN_NAMES)

    def test_methods_and_values(self):
        for path, text, tree in self.files():
            for node in ast.walk(tree):
                if isinstance(node, ast.Call) and isinstance(node.func, ast.Attribute):
                    self.assertIn(node.func.attr, METHODS)
                elif isinstance(node, ast.Attribute):
                    self.assertNotIn(node.attr, UNUSED_NAMES)

    def test_imports(self):
        drawn = {}
        for path, text, tree in self.files():
            module = f"movedcases.{path.stem}"
            drawn[module] = [node.module for node in ast.walk(tree) if isinstance(node, ast.ImportFrom)]
            for node in ast.walk(tree):
                if isinstance(node, ast.ImportFrom):
                    self.assertIn(node, tree.body)
                    source = ast.parse((PACKAGE / f"{node.module.split('.')[1]}.py").read_text())
                    own = [name.id for part in source.body if isinstance(part, ast.Assign) for name in part.targets]
                    own += [part.name for part in source.body if isinstance(part, (ast.FunctionDef, ast.ClassDef))]
                    for name in node.names:
                        self.assertIn(name.name, own)
        while drawn:
            free = [module for module in drawn if not any(other in drawn for other in drawn[module])]
            self.assertNotEqual(free, [], "files that draw from one another")
            for module in free:
                drawn.pop(module)


if __name__ == "__main__":
    unittest.main()
